"""How input words are put into a layout, and output words are read from it."""

from ramet.errors import BadWord, NotThere, TooMany
from ramet.kinds import ONE, ZERO
from ramet.net import last_step
from ramet.places import SOUTH
from ramet.space import union
from ramet.words import is_word

MOST_WORDS = 40


def feed(layout, words):
    """Return the pattern of a layout with input words, and with room for as many output words."""
    if len(words) > MOST_WORDS:
        raise TooMany("there are too many input words")
    for word in words:
        if not is_word(word, len(layout.ins)):
            raise BadWord("an input word does not have one bit for each in place")
    added = {}
    for k, word in enumerate(words):
        for (x, y), bit in zip(layout.ins, word):
            added[x, y - 1 - k] = ("wire", SOUTH, ZERO + bit)
    for x, y in layout.outs:
        for k in range(len(words) + 1):
            added[x, y + 1 + k] = ("wire", SOUTH, 0)
    return union(layout.pattern, added)


def due(layout, words):
    """Return the step after which a layout that is fed with input words is still."""
    return last_step(feed(layout, words))


def drain(layout, pattern, n):
    """Return the first n output words in a pattern that came from feeding a layout."""
    return [tuple([_bit_at(pattern, x, y + n + 1 - k) for x, y in layout.outs]) for k in range(n)]


def _bit_at(pattern, x, y):
    state = pattern.get((x, y))
    if state == ("wire", SOUTH, ZERO):
        return 0
    if state == ("wire", SOUTH, ONE):
        return 1
    raise NotThere(f"no output bit stands at {x}, {y}")
