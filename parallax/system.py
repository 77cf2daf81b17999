"""Systems, their paths, and the rows of colours that they show."""

from parallax.errors import BadSystem, TooMuch
from parallax.kinds import are_numbers, is_number, is_rising, is_tuple

MOST_COLOURS = 4
MOST_STATES = 8
MOST_PATHS = 5000


def check_system(s):
    """Raise BadSystem unless s is a system."""
    if not _is_system(s):
        raise BadSystem()


def is_path(s, path):
    """Whether path is a path of the system s."""
    check_system(s)
    _, starts, states = s
    if path == () or not are_numbers(path, 0, len(states) - 1):
        return False
    steps = [after in states[before][1] for before, after in zip(path, path[1:])]
    return path[0] in starts and all(steps)


def paths(s, n):
    """The rising list of all paths of s with n states; TooMuch if they are more than 5000."""
    check_system(s)
    _, starts, states = s
    if n < 1:
        return []
    # Starts and nexts rise, so the paths come in rising order by themselves.
    found = [(start,) for start in starts]
    for _ in range(n - 1):
        found = [(*path, after) for path in found for after in states[path[-1]][1]]
        # Each state has a next, so what is too much now stays so: stop before it grows.
        if len(found) > MOST_PATHS:
            raise TooMuch()
    return found


def rows(s, n):
    """The rising list of the rows of n colours that s shows."""
    check_system(s)
    if n < 0:
        return []
    # Many paths show the same row: it is kept once, with all states that may come next.
    found = [((), s[1])]
    for _ in range(n):
        different = sorted({ahead for row, ahead in found})
        steps = {ahead: _colour_steps(s, ahead) for ahead in different}
        found = [((*row, colour), after) for row, ahead in found for colour, after in steps[ahead]]
    return [row for row, ahead in found]


def _is_system(s):
    if not is_tuple(s, 3, 3):
        return False
    colours, starts, states = s
    return (
        is_number(colours, 1, MOST_COLOURS)
        and is_tuple(states, 1, MOST_STATES)
        and _are_states(starts, len(states))
        and all(_is_state(state, colours, len(states)) for state in states)
    )


def _is_state(state, colours, many):
    if not is_tuple(state, 2, 2):
        return False
    colour, nexts = state
    return is_number(colour, 0, colours - 1) and _are_states(nexts, many)


def _are_states(xs, many):
    """Whether xs is a strictly rising tuple, not empty, of numbers of the many states."""
    return xs != () and are_numbers(xs, 0, many - 1) and is_rising(xs)


def _colour_steps(s, ahead):
    """For each colour that states of ahead have, rising: it, and all nexts of these states."""
    colours, _, states = s
    steps = []
    for colour in range(colours):
        nexts = [states[at][1] for at in ahead if states[at][0] == colour]
        if nexts:
            steps.append((colour, tuple(sorted({after for group in nexts for after in group}))))
    return steps
