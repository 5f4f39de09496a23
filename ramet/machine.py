"""Machines: tables of states that read words and write words."""

from ramet.errors import BadMachine, BadWord
from ramet.kinds import is_between
from ramet.words import all_words, is_word, word_number

MOST_STATES = 8
MOST_INPUTS = 3
MOST_OUTPUTS = 3


class Machine:
    """A machine with a table of pairs (next state, output word)."""

    def __init__(self, states, inputs, outputs, rows):
        if not is_between(states, 1, MOST_STATES):
            raise BadMachine("the number of states is out of range")
        if not is_between(inputs, 0, MOST_INPUTS):
            raise BadMachine("the number of input bits is out of range")
        if not is_between(outputs, 1, MOST_OUTPUTS):
            raise BadMachine("the number of output bits is out of range")
        if len(rows) != states << inputs:
            raise BadMachine("the table does not have one row for each state and input word")
        for row in rows:
            if not _is_row(row, states, outputs):
                raise BadMachine("a row is not a pair of a state and an output word")
        self.states = states
        self.inputs = inputs
        self.outputs = outputs
        self._rows = list(rows)

    def row(self, state, word):
        """Return the pair (next state, output word) for a state and an input word."""
        if not is_between(state, 0, self.states - 1):
            raise BadMachine("there is no such state")
        if not is_word(word, self.inputs):
            raise BadWord("an input word does not have the bits of the machine")
        return self._rows[(state << self.inputs) + word_number(word)]

    def run(self, words):
        """Return the output words for a list of input words, from state 0 on."""
        state = 0
        answers = []
        for word in words:
            state, answer = self.row(state, word)
            answers.append(answer)
        return answers

    def trace(self, words):
        """Return the state before the first word, and the state after each word."""
        states = [0]
        for word in words:
            state, _ = self.row(states[-1], word)
            states.append(state)
        return states

    def table(self):
        """Return a new list of the rows."""
        return list(self._rows)


def _is_row(row, states, outputs):
    if not isinstance(row, tuple) or len(row) != 2:
        return False
    return is_between(row[0], 0, states - 1) and is_word(row[1], outputs)


def equal_answers(first, second):
    """Return None, or the least of the shortest lists of words that two machines answer differently."""
    if first.inputs != second.inputs or first.outputs != second.outputs:
        raise BadMachine("the machines do not have the same numbers of bits")
    words = all_words(first.inputs)
    met = {(0, 0): True}
    # Each level has the pairs of states that some list of this length leads to first, with the
    # least such list, in the order of these lists. So the first difference found is the least.
    level = [(0, 0, [])]
    while len(level) > 0:
        following = []
        for one, two, path in level:
            for word in words:
                next_one, answer_one = first.row(one, word)
                next_two, answer_two = second.row(two, word)
                if answer_one != answer_two:
                    return path + [word]
                if (next_one, next_two) not in met:
                    met[next_one, next_two] = True
                    following.append((next_one, next_two, path + [word]))
        level = following
    return None
