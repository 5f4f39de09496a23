"""Planes: a machine as a list of terms, each with the literals at which it holds and the sums it gives."""

from ramet.words import all_words, number_word


def state_bits(machine):
    """Return how many bits the state of a machine has."""
    return (machine.states - 1).bit_length()


def plane(machine):
    """Return the terms of a machine: pairs of literals and sums, in the order of its rows."""
    bits = state_bits(machine)
    reads = [(state, word) for state in range(machine.states) for word in all_words(machine.inputs)]
    terms = []
    for (state, word), (after, answer) in zip(reads, machine.table()):
        sums = number_word(after, bits) + answer
        if 1 in sums:
            terms.append((word + number_word(state, bits), sums))
    return terms


def run_plane(terms, state_bits, outputs, words):
    """Return the output words of a plane for a list of input words."""
    now = (0,) * state_bits
    answers = []
    for word in words:
        sums = _sums_at(terms, word + now, state_bits + outputs)
        now = sums[:state_bits]
        answers.append(sums[state_bits:])
    return answers


def _sums_at(terms, literals, many):
    """Return the sums of the step with these literals."""
    held = [sums for wanted, sums in terms if wanted == literals]
    return tuple([1 if any([sums[k] == 1 for sums in held]) else 0 for k in range(many)])
