"""How the questions of both kinds fit together, and what they share with the watchers they lean on."""

import itertools
import unittest

from parallax.answer import answer, takes
from parallax.errors import TooMuch
from parallax.looks import equal_looks, shown_by
from parallax.watcher import accepts_paths, meet, turned
from tests.helper import FREE, NOT_LESS, RING, STAIRS, TURNS, refusal
from tests.reference import Dice, questions


def told(q):
    """The word of the answer; None if it is too much."""
    return None if refusal(answer, q) is TooMuch else answer(q)[0]


def doubled(s):
    """A system that shows the same with twice the states: each next is taken in the other half, too."""
    colours, starts, states = s
    many = len(states)
    first = [(colour, tuple(k + many for k in nexts)) for colour, nexts in states]
    second = [(colour, tuple(sorted({*nexts, *[k + many for k in nexts]}))) for colour, nexts in states]
    return (colours, starts, tuple(first + second))


def placed(values, order):
    """The values, each at the place that the order says for it."""
    found = [None] * len(values)
    for place, value in zip(order, values):
        found[place] = value
    return tuple(found)


def orders(many, places):
    """The orders that turn the first many places among themselves and the others among themselves."""
    return [one + other for one in itertools.permutations(range(many))
            for other in itertools.permutations(range(many, places))]


class Fits(unittest.TestCase):
    def setUp(self):
        self.seen = set()

    def check_same(self, q, other):
        words = told(q), told(other)
        self.seen.add(words)
        if None not in words and words[0] != words[1]:
            self.fail(f"{q!r} and {other!r}: {words}")

    def check_follows(self, q, other):
        """Checks that the other question is true if the first one is."""
        words = told(q), told(other)
        self.seen.add(words)
        if words == ("yes", "no"):
            self.fail(f"{q!r} and {other!r}: {words}")

    def tearDown(self):
        # Each of these tests has seen true questions and false ones.
        self.assertLessEqual({("yes", "yes"), ("no", "no")}, self.seen)


class BothKinds(Fits):
    def test_all_systems_lead_or_none(self):
        for q in questions(41, 12):
            _, many, systems, w = q
            k = len(systems)
            self.check_same(("all", k, systems, w), ("some", 0, systems, w))
            self.check_same(("all", 0, systems, w), ("some", k, systems, w))
            self.check_follows(("all", k, systems, w), ("all", 0, systems, w))

    def test_one_for_all_is_one_for_each(self):
        # What goes with all others goes with each of them: the leading ones change their places.
        for q in questions(42, 25):
            _, many, systems, w = q
            order = tuple(range(len(systems)))
            turn = order[len(systems) - many:] + order[:len(systems) - many]
            other = ("all", len(systems) - many, placed(systems, turn), turned(w, turn))
            self.check_follows(("some", *q[1:]), other)

    def test_one_that_leads_more(self):
        for q in questions(43, 20):
            kind, many, systems, w = q
            if many < len(systems):
                self.check_follows(("all", many + 1, systems, w), ("all", many, systems, w))
                self.check_follows(("some", many, systems, w), ("some", many + 1, systems, w))


class TurnedWatchers(Fits):
    def test_each_order(self):
        for q in questions(44, 12):
            kind, many, systems, w = q
            for order in orders(many, len(systems)):
                other = (kind, many, placed(systems, order), turned(w, order))
                self.check_same(q, other)
                if kind == "all" and told(q) == "no":
                    path = tuple(placed(p, order[:many]) for p in answer(q)[1])
                    self.assertIs(takes(other, ("no", path)), True)
                    self.assertEqual(len(answer(other)[1]), len(path))
                if kind == "some" and told(q) == "yes":
                    _, stem, loop = answer(q)
                    turn = [tuple(placed(p, order[:many]) for p in part) for part in (stem, loop)]
                    self.assertIs(takes(other, ("yes", *turn)), True)

    def test_rows_are_turned_with_it(self):
        for q in questions(45, 8):
            kind, many, systems, w = q
            if (kind, told(q)) not in (("all", "yes"), ("some", "no")):
                self.seen.add((told(q), told(q)))
                continue
            for order in orders(many, len(systems)):
                behind = [place - many for place in order[many:]]
                rows = tuple((placed(p, order), tuple(sorted((placed(r, behind), z) for r, z in crowd)))
                             for p, crowd in answer(q)[1])
                other = (kind, many, placed(systems, order), turned(w, order))
                self.assertIs(takes(other, (told(q), rows)), True)


class Meets(Fits):
    def lots(self, seed, each):
        dice = Dice(seed)
        for q in questions(seed, each):
            other = dice.watcher(q[3][0], dice.number(1, 2), dice.one((5, 20, 40)))
            if refusal(meet, q[3], other) is None:
                yield q, other

    def test_each_accepts_what_the_meet_does(self):
        for q, other in self.lots(46, 20):
            both = (*q[:3], meet(q[3], other))
            self.check_follows(both, q)
            self.check_follows(both, (*q[:3], other))

    def test_all_runs(self):
        for q, other in self.lots(47, 20):
            for kind, many in (("all", len(q[2])), ("some", 0)):
                words = [told((kind, many, q[2], w)) for w in (q[3], other, meet(q[3], other))]
                self.seen.add((words[2], words[2]))
                if None not in words:
                    self.assertEqual(words[2] == "yes", words[:2] == ["yes", "yes"])

    def test_what_follows_meets_itself(self):
        for q in questions(48, 20):
            self.check_same(q, (*q[:3], meet(q[3], q[3])))

    def test_in_another_order(self):
        for q, other in self.lots(49, 15):
            self.check_same((*q[:3], meet(q[3], other)), (*q[:3], meet(other, q[3])))


class EqualLooks(Fits):
    def test_doubled_systems_have_equal_looks(self):
        for q in questions(51, 5):
            for s in q[2]:
                self.seen.add((shown_by(s, doubled(s))[0],) * 2)
                self.assertIs(equal_looks(s, doubled(s)), True)
                self.assertIs(equal_looks(doubled(s), s), True)
        self.seen.add(("no", "no"))

    def test_one_put_for_the_other(self):
        for q in questions(52, 20, most_states=4):
            kind, many, systems, w = q
            for place, s in enumerate(systems):
                put = (*systems[:place], doubled(s), *systems[place + 1:])
                self.check_same(q, (kind, many, put, w))

    def test_all_put_for_the_others(self):
        for q in questions(53, 10, most_states=3):
            kind, many, systems, w = q
            self.check_same(q, (kind, many, tuple(doubled(s) for s in systems), w))

    def test_what_is_shown_is_put_for_what_shows_it(self):
        dice = Dice(54)
        shown = 0
        for q in questions(54, 40):
            kind, many, systems, w = q
            place = dice.number(0, len(systems) - 1)
            # A system that looks like it, or has a start or a next less.
            s = self.lessened(dice, systems[place])
            other = (kind, many, (*systems[:place], s, *systems[place + 1:]), w)
            if shown_by(s, systems[place])[0] == "yes":
                shown += 1
                if kind == "all" and place < many or kind == "some" and many == 0:
                    self.check_follows(q, other)
                # A system that shows more helps where its run is looked for.
                if kind == "all" and place >= many or kind == "some" and many == len(systems):
                    self.check_follows(other, q)
        self.assertGreater(shown, 300)

    def lessened(self, dice, s):
        colours, starts, states = s
        if len(starts) > 1:
            starts = starts[1:]
        k = dice.number(0, len(states) - 1)
        colour, nexts = states[k]
        if len(nexts) > 1:
            nexts = nexts[:-1]
        return (colours, starts, (*states[:k], (colour, nexts), *states[k + 1:]))


class Paths(Fits):
    def test_a_way_of_all_is_refused_by_accepts_paths(self):
        for q in questions(55, 25):
            kind, many, systems, w = q
            word = told(q)
            self.seen.add((word, word))
            if (kind, word, many) == ("all", "no", len(systems)):
                paths = tuple(zip(*answer(q)[1]))
                self.assertIs(accepts_paths(w, systems, paths), False)
                if len(paths[0]) > 1:
                    self.assertIs(accepts_paths(w, systems, tuple(path[:-1] for path in paths)), True)
            if (kind, word, many) == ("some", "yes", len(systems)):
                _, stem, loop = answer(q)
                self.assertIs(accepts_paths(w, systems, tuple(zip(*stem, *loop * 30))), True)

    def test_with_the_watchers_of_the_helper(self):
        for w, systems in ((RING, (FREE, TURNS)), (NOT_LESS, (STAIRS, TURNS)), (RING, (STAIRS, FREE))):
            for many in range(3):
                for kind in ("all", "some"):
                    self.check_same((kind, many, systems, w), (kind, many, systems, meet(w, w)))
        self.check_same(("all", 0, (FREE, FREE), NOT_LESS), ("some", 2, (FREE, FREE), NOT_LESS))
        self.check_same(("all", 2, (FREE, FREE), NOT_LESS), ("some", 0, (FREE, FREE), NOT_LESS))


if __name__ == "__main__":
    unittest.main()
