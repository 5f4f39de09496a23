"""What becomes of a constructor, told without running it: when it gives, and its rest."""

from ramet.body import built, parked, ring_size
from ramet.errors import NotOwn, NotStill
from ramet.own import own
from ramet.pace import give_steps
from ramet.space import is_still, union
from ramet.tape import copies
from ramet.walker import meaning


def gives(tape):
    """Return the steps at which the root gets each command, and then STOP or PORT."""
    return tuple(give_steps(meaning(tape)))


def done(tape):
    """Return the last step at which a cell of the constructor changes."""
    made = meaning(tape)
    last, length = give_steps(made)[-1], len(made.trail)
    many, n = len(tape), ring_size(tape)
    if not copies(tape):
        return max(last + 2 * length + 1, last + many + 8, n + 1)
    if own(tape) is None:
        raise NotOwn("the tape has a port, and is not its own")
    copied = last + 2 * length + 2 * many
    return max(copied + 2 * length + 2, copied + many + 6, last + n + 3)


def rest_of(tape):
    """Return what is there when the constructor of a tape with STOP is at rest."""
    cells = built(tape)
    if copies(tape):
        raise NotOwn("the tape has a port")
    if not is_still(cells):
        raise NotStill("what the tape describes is not still")
    return union(parked(tape), cells)
