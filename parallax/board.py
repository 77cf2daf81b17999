"""What a question that is checked already says of its leading tuples and its crowds."""

from parallax.kinds import is_number, is_rising, is_tuple
from parallax.system import is_path
from parallax.watcher import step


class Board:
    """The leading tuples of a question, and the crowds along them.

    A step is a pair (p, (crowd, fails)): a leading tuple, the crowd that comes with it, and whether
    something fails there.
    """

    def __init__(self, q):
        _, many, systems, watcher = q
        self.leading = systems[:many]
        self.following = systems[many:]
        self.watcher = watcher
        self.known = {}

    def starts(self):
        """The rising list of the leading start tuples."""
        return _start_tuples(self.leading)

    def nexts(self, p):
        """The rising list of the nexts of the leading tuple p."""
        return _next_tuples(self.leading, p)

    def first(self, p):
        """The first crowd of p, and whether the beginning fails for p."""
        coming = [(r, 0) for r in _start_tuples(self.following)]
        return self._read(coming, _colours(self.leading, p))

    def after(self, crowd, p):
        """The next crowd of crowd for p, and whether crowd fails for p."""
        # Of p the colours alone count, so one entry does for many tuples.
        key = (crowd, _colours(self.leading, p))
        if key not in self.known:
            self.known[key] = self._read(_coming(self.following, crowd), key[1])
        return self.known[key]

    def first_steps(self):
        """The steps to all leading start tuples, these rising."""
        return [(p, self.first(p)) for p in self.starts()]

    def next_steps(self, p, crowd):
        """The steps from p with crowd to all nexts of p, these rising."""
        return [(t, self.after(crowd, t)) for t in self.nexts(p)]

    def is_leading_path(self, tuples):
        """Whether tuples, a tuple, has a start tuple and then at each place a next of the one before."""
        many = len(self.leading)
        if tuples == () or not all(is_tuple(p, many, many) for p in tuples):
            return False
        columns = [tuple([p[at] for p in tuples]) for at in range(many)]
        return all([is_path(s, column) for s, column in zip(self.leading, columns)])

    def is_row(self, row):
        """Whether row is a pair of a leading tuple and a crowd that is not empty."""
        if not is_tuple(row, 2, 2):
            return False
        p, crowd = row
        return (
            _are_states(self.leading, p)
            and isinstance(crowd, tuple)
            and crowd != ()
            and all(self._is_pair(pair) for pair in crowd)
            and is_rising(crowd)
        )

    def _is_pair(self, pair):
        if not is_tuple(pair, 2, 2):
            return False
        r, state = pair
        return _are_states(self.following, r) and is_number(state, 0, len(self.watcher[1]) - 1)

    def _read(self, coming, colours):
        """The crowd behind the pairs (r, state before r) beside the leading colours, and whether it fails."""
        going = {}
        for r, before in coming:
            state = step(self.watcher, before, colours + _colours(self.following, r))
            going[(r, state)] = True
        crowd = [(r, state) for r, state in going if state != -1]
        return tuple(sorted(crowd)), len(crowd) < len(going)


def _start_tuples(systems):
    found = [()]
    for s in systems:
        found = [(*before, start) for before in found for start in s[1]]
    return found


def _next_tuples(systems, p):
    found = [()]
    for s, at in zip(systems, p):
        found = [(*before, after) for before in found for after in s[2][at][1]]
    return found


def _coming(systems, crowd):
    """The different pairs (r, z) such that r is a next of s for a pair (s, z) of crowd."""
    found = {pair: True for pair in crowd}
    # One place of the tuples after the other: what two tuples have in common is gone through once.
    for at, s in enumerate(systems):
        found = {((*r[:at], after, *r[at + 1:]), z): True for r, z in found for after in s[2][r[at]][1]}
    return list(found)


def _colours(systems, p):
    return tuple([s[2][at][0] for s, at in zip(systems, p)])


def _are_states(systems, p):
    """Whether p is a tuple of one state of each of the systems."""
    if not is_tuple(p, len(systems), len(systems)):
        return False
    return all([is_number(k, 0, len(s[2]) - 1) for s, k in zip(systems, p)])
