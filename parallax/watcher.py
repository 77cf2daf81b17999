"""Watchers, which look at several runs at the same time."""

from parallax.errors import BadPath, BadSystem, BadWatcher, TooMuch
from parallax.kinds import are_numbers, is_tuple
from parallax.system import MOST_COLOURS, check_system, is_path

MOST_RUNS = 3
MOST_STATES = 6


def check_watcher(w):
    """Raise BadWatcher unless w is a watcher."""
    if not _is_watcher(w):
        raise BadWatcher()


def goes(w, state, colours):
    """The state to which w goes from a state by a tuple of colours, or -1."""
    check_watcher(w)
    return step(w, state, colours)


def step(w, state, colours):
    """What goes tells, of a watcher that is checked already."""
    counts, states = w
    return states[state][_place(counts, colours)]


def accepts_paths(w, systems, paths):
    """Whether w accepts the paths of the systems together."""
    check_watcher(w)
    _check_systems(systems)
    if not _fit(w[0], systems, paths):
        raise BadPath()
    shown = [[s[2][at][0] for at in path] for s, path in zip(systems, paths)]
    state = 0
    for colours in zip(*shown):
        state = step(w, state, colours)
        if state == -1:
            return False
    return True


def meet(v, w):
    """A watcher that accepts what both v and w accept; TooMuch if it has more than 6 states."""
    check_watcher(v)
    check_watcher(w)
    if v[0] != w[0]:
        raise BadWatcher()
    pairs = _reached_pairs(v[1], w[1])
    if len(pairs) > MOST_STATES:
        raise TooMuch()
    return v[0], tuple([_meet_state(v[1][a], w[1][b], pairs) for a, b in pairs])


def turned(w, order):
    """The watcher that accepts the runs r if w accepts the runs r[order[0]], r[order[1]], .."""
    check_watcher(w)
    counts, states = w
    new_counts = tuple([counts[order.index(at)] for at in range(len(order))])
    places = [_place(counts, [colours[at] for at in order]) for colours in _tuples(new_counts)]
    return new_counts, tuple([tuple([state[place] for place in places]) for state in states])


def same(count):
    """The watcher of two runs that accepts what is equal at each time."""
    state = tuple([0 if one == other else -1 for one, other in _tuples((count, count))])
    return (count, count), (state,)


def _is_watcher(w):
    if not is_tuple(w, 2, 2):
        return False
    counts, states = w
    if not (is_tuple(counts, 1, MOST_RUNS) and are_numbers(counts, 1, MOST_COLOURS)):
        return False
    if not is_tuple(states, 1, MOST_STATES):
        return False
    length = len(_tuples(counts))
    return all(_is_state(state, length, len(states)) for state in states)


def _is_state(state, length, many):
    return is_tuple(state, length, length) and are_numbers(state, -1, many - 1)


def _check_systems(systems):
    if not isinstance(systems, tuple):
        raise BadSystem()
    for s in systems:
        check_system(s)


def _fit(counts, systems, paths):
    """Whether these are paths of these systems, of one length, and both are as counts say."""
    return (
        is_tuple(paths, len(counts), len(counts))
        and [s[0] for s in systems] == list(counts)
        and all([is_path(s, path) for s, path in zip(systems, paths)])
        and all(len(path) == len(paths[0]) for path in paths)
    )


def _tuples(counts):
    """All tuples of colours below these counts, in the order of Python."""
    found = [()]
    for count in counts:
        found = [(*before, colour) for before in found for colour in range(count)]
    return found


def _place(counts, colours):
    """The place of a tuple of colours in the list of _tuples(counts)."""
    place = 0
    for count, colour in zip(counts, colours):
        place = place * count + colour
    return place


def _reached_pairs(first, second):
    """The pairs of states to which two watchers come together, (0, 0) being the first one."""
    pairs = [(0, 0)]
    done = 0
    while done < len(pairs):
        a, b = pairs[done]
        done += 1
        for pair in zip(first[a], second[b]):
            if -1 not in pair and pair not in pairs:
                pairs.append(pair)
    return pairs


def _meet_state(first, second, pairs):
    """The state of a meet for a state of each watcher; pairs are numbered by their places."""
    return tuple([-1 if -1 in pair else pairs.index(pair) for pair in zip(first, second)])
