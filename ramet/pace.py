"""When a constructor's reader gives the commands of its tape."""

FIRST_GIVE = 4


def give_steps(made):
    """Return the steps at which the root gets each command of a walk, and then STOP or PORT."""
    step = FIRST_GIVE
    steps = [step]
    for (what, many), length in zip(made.steps, made.lengths):
        # The command goes out along the arm, and the head's asking comes back.
        step += 2 * length + 2
        if what == "forth":
            step += 3 * many
        elif what == "write":
            step += many
        steps.append(step)
    return steps
