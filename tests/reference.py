"""What the document says of questions and papers, tried out word by word: slow, and apart from the program."""

import functools
import itertools

from parallax.system import paths
from parallax.watcher import accepts_paths


def start_tuples(systems):
    return list(itertools.product(*[s[1] for s in systems]))


def next_tuples(systems, p):
    return list(itertools.product(*[s[2][k][1] for s, k in zip(systems, p)]))


def leading(q):
    return q[2][:q[1]]


def following(q):
    return q[2][q[1]:]


@functools.lru_cache(maxsize=None)
def table(w):
    """For each state of w: a dict from the tuples of colours to where it goes."""
    colours = list(itertools.product(*[range(count) for count in w[0]]))
    return [dict(zip(colours, state)) for state in w[1]]


def goes_by(q, z, p, r):
    """Where the watcher of q goes from z by the colours of p and r."""
    return table(q[3])[z][tuple(s[2][k][0] for s, k in zip(q[2], p + r))]


def first_going(q, p):
    """All pairs of a following start tuple and where the watcher goes by it, -1 included [3.4]."""
    return {(r, goes_by(q, 0, p, r)) for r in start_tuples(following(q))}


def next_going(q, crowd, p):
    """The same for the time after a crowd."""
    return {(r, goes_by(q, z, p, r)) for s, z in crowd for r in next_tuples(following(q), s)}


def crowd_in(going):
    return tuple(sorted(pair for pair in going if pair[1] != -1))


def fails_in(going):
    return any(z == -1 for _, z in going)


def pairs_led_to(q, most=2000):
    """For each pair (p, crowd) that any path leads to: its steps (pair behind it, fails); the first steps by None.

    Gives up, with None, when there are more than most.
    """
    goings = [(p, first_going(q, p)) for p in start_tuples(leading(q))]
    found = {None: [((p, crowd_in(going)), fails_in(going)) for p, going in goings]}
    todo = [pair for pair, _ in found[None]]
    for p, crowd in todo:
        if (p, crowd) in found:
            continue
        if len(found) > most:
            return None
        goings = [(t, next_going(q, crowd, t)) for t in next_tuples(leading(q), p)]
        found[p, crowd] = [((t, crowd_in(going)), fails_in(going)) for t, going in goings]
        todo.extend(pair for pair, _ in found[p, crowd])
    return found


def holds(q, found):
    """Whether the question is true, told from all its pairs."""
    if q[0] == "all":
        return all(pair is None or pair[1] != () for pair in found)
    alive = set(found)
    while True:
        still = {pair for pair in alive if any(to in alive and not fails for to, fails in found[pair])}
        if still == alive:
            return None in alive
        alive = still


def shortest_empty(q, found):
    """The first of the shortest paths of leading tuples whose crowds end in the empty one; None without such."""
    here = {pair: (pair[0],) for pair, _ in found[None]}
    seen = set(here)
    while here:
        ends = sorted(path for pair, path in here.items() if pair[1] == ())
        if ends:
            return ends[0]
        ahead = {}
        for pair, path in here.items():
            for to, _ in found[pair]:
                if to not in seen:
                    ahead[to] = min(ahead.get(to, path + (to[0],)), path + (to[0],))
        seen.update(ahead)
        here = ahead
    return None


def holds_up_to(q, n):
    """The lengths up to n for which [3.2] holds of all paths with so many states instead of runs."""
    kind, many, systems, w = q
    good = []
    for length in range(1, n + 1):
        ways = [list(itertools.product(*[paths(s, length) for s in some])) for some in (systems[:many], systems[many:])]
        quantified = [[accepts_paths(w, systems, one + other) for other in ways[1]] for one in ways[0]]
        if all(any(row) for row in quantified) if kind == "all" else any(all(row) for row in quantified):
            good.append(length)
    return good


def is_state_tuple(systems, p):
    if not isinstance(p, tuple) or len(p) != len(systems):
        return False
    return all(type(k) is int and 0 <= k < len(s[2]) for s, k in zip(systems, p))


def are_state_tuples(systems, ps):
    return isinstance(ps, tuple) and all(is_state_tuple(systems, p) for p in ps)


def are_rows(q, rows):
    """Whether rows are such as [4.1] says, apart from what they lead to."""
    if not isinstance(rows, tuple) or len(rows) > 400:
        return False
    for row in rows:
        if not isinstance(row, tuple) or len(row) != 2 or not is_state_tuple(leading(q), row[0]):
            return False
        if not isinstance(row[1], tuple) or row[1] == ():
            return False
        for pair in row[1]:
            if not isinstance(pair, tuple) or len(pair) != 2 or not is_state_tuple(following(q), pair[0]):
                return False
            if type(pair[1]) is not int or not 0 <= pair[1] < len(q[3][1]):
                return False
        if list(row[1]) != sorted(set(row[1])):
            return False
    return True


def right(q, paper):
    """Whether paper is a right one, and not too long, by the words of [4.1], [4.2], [5.1] and [5.2]."""
    if not isinstance(paper, tuple) or paper == () or paper[0] not in ("yes", "no"):
        return False
    if len(paper) != (3 if (q[0], paper[0]) == ("some", "yes") else 2):
        return False
    told = {("all", "yes"): all_yes, ("all", "no"): all_no, ("some", "yes"): some_yes, ("some", "no"): some_no}
    return told[q[0], paper[0]](q, *paper[1:])


def within(rows, p, going):
    return any(t == p and set(crowd) <= set(crowd_in(going)) for t, crowd in rows)


def all_yes(q, rows):
    if not are_rows(q, rows):
        return False
    for p in start_tuples(leading(q)):
        if not within(rows, p, first_going(q, p)):
            return False
    for p, crowd in rows:
        for t in next_tuples(leading(q), p):
            if not within(rows, t, next_going(q, crowd, t)):
                return False
    return True


def all_no(q, path):
    if not are_state_tuples(leading(q), path) or not 0 < len(path) <= 400:
        return False
    if path[0] not in start_tuples(leading(q)):
        return False
    crowd = crowd_in(first_going(q, path[0]))
    for p, t in zip(path, path[1:]):
        if t not in next_tuples(leading(q), p):
            return False
        crowd = crowd_in(next_going(q, crowd, t))
    return crowd == ()


def some_yes(q, stem, loop):
    if not are_state_tuples(leading(q), stem) or not are_state_tuples(leading(q), loop):
        return False
    if loop == () or len(stem) + len(loop) > 400:
        return False
    way = stem + loop
    going = first_going(q, way[0])
    if way[0] not in start_tuples(leading(q)) or fails_in(going):
        return False
    place, crowd, seen = 0, crowd_in(going), set()
    # The same place with the same crowd: from here on all comes again.
    while (place, crowd) not in seen:
        seen.add((place, crowd))
        after = place + 1 if place + 1 < len(way) else len(stem)
        going = next_going(q, crowd, way[after])
        if way[after] not in next_tuples(leading(q), way[place]) or fails_in(going):
            return False
        place, crowd = after, crowd_in(going)
    return True


def some_no(q, rows):
    if not are_rows(q, rows):
        return False
    for at, (p, crowd) in enumerate(rows):
        for t in next_tuples(leading(q), p):
            going = next_going(q, crowd, t)
            if not fails_in(going) and not within(rows[:at], t, going):
                return False
    for p in start_tuples(leading(q)):
        going = first_going(q, p)
        if not fails_in(going) and not within(rows, p, going):
            return False
    return True


class Dice:
    """Numbers that look thrown, and are the same ones each time."""

    def __init__(self, seed):
        self.state = seed

    def number(self, low, high):
        self.state = (self.state * 6364136223846793005 + 1442695040888963407) % 2 ** 64
        return low + (self.state >> 33) % (high - low + 1)

    def one(self, items):
        return items[self.number(0, len(items) - 1)]

    def states(self, many, most):
        """A strictly rising tuple of 1 to most of the numbers below many."""
        return tuple(sorted({self.number(0, many - 1) for _ in range(self.number(1, most))}))

    def system(self, colours, many, most):
        """A system with many states, each of them with 1 to most nexts."""
        states = tuple((self.number(0, colours - 1), self.states(many, most)) for _ in range(many))
        return (colours, self.states(many, most), states)

    def watcher(self, counts, many, stops):
        """A watcher with many states that goes to -1 in about stops of a hundred places."""
        length = len(list(itertools.product(*[range(count) for count in counts])))
        def place():
            return -1 if self.number(1, 100) <= stops else self.number(0, many - 1)
        return (counts, tuple(tuple(place() for _ in range(length)) for _ in range(many)))

    def question(self, kind, many, places, most_states=4, most_nexts=2, stops=None):
        """A question over so many places, of which many lead."""
        counts = tuple(self.number(1, 3) for _ in range(places))
        systems = tuple(self.system(count, self.number(1, most_states), most_nexts) for count in counts)
        stops = self.one((5, 15, 30, 50)) if stops is None else stops
        return (kind, many, systems, self.watcher(counts, self.number(1, 3), stops))


def questions(seed, each, **more):
    """For each kind, each number of places and each number of leading ones: so many questions."""
    dice = Dice(seed)
    shapes = [(kind, many, places) for kind in ("all", "some") for places in (1, 2, 3) for many in range(places + 1)]
    return [dice.question(*shape, **more) for shape in shapes for _ in range(each)]


def first_bad_way(q, length):
    """The first path of so many leading tuples beside which no paths are accepted; None without such."""
    systems = leading(q)
    bad = []
    for one in itertools.product(*[paths(s, length) for s in systems]):
        if not any(accepts_paths(q[3], q[2], one + other)
                   for other in itertools.product(*[paths(s, length) for s in following(q)])):
            bad.append(tuple(zip(*one)) if systems else ((),) * length)
    return min(bad, default=None)
