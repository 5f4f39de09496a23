"""Words: tuples of bits."""

from ramet.kinds import is_between


def is_word(value, bits):
    """Tell whether a value is a word of a number of bits."""
    if not isinstance(value, tuple) or len(value) != bits:
        return False
    for bit in value:
        if not is_between(bit, 0, 1):
            return False
    return True


def word_number(word):
    """Return the place of a word among the words with as many bits, from 0 on."""
    number = 0
    for bit in word:
        number = 2 * number + bit
    return number


def number_word(number, bits):
    """Return the word of a number of bits that has a place in their order."""
    return tuple([(number >> (bits - 1 - k)) & 1 for k in range(bits)])


def all_words(bits):
    """Return the words of a number of bits, in order."""
    words = [()]
    for _ in range(bits):
        words = [word + (bit,) for word in words for bit in (0, 1)]
    return words
