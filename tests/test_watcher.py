"""Watchers [2.1], what they accept [2.2], and watchers made of others [2.3]."""

import itertools
import unittest

from parallax.errors import BadPath, BadSystem, BadWatcher, TooMuch
from parallax.system import paths
from parallax.watcher import accepts_paths, check_watcher, goes, meet, same, turned
from tests.helper import CALM, DULL, MAZE, MIXED, RING, SPARSE, STAIRS, SYSTEMS, THREE, TURNS
from tests.helper import WATCHERS, WRONG, deep, refusal, swapped, truths, whole


# Two states of two colours, each of which may follow each.
WIDE_TWO = whole(2, 2)


def tuples(counts):
    """All tuples of colours in the order of Python."""
    return list(itertools.product(*[range(count) for count in counts]))


def going(w, state, colours):
    """Where w goes, told from the table that [2.1] describes."""
    return dict(zip(tuples(w[0]), w[1][state]))[colours]


def accepts(w, rows):
    """Whether w does not go to -1 on rows of colours of one length."""
    state = 0
    for colours in zip(*rows):
        state = going(w, state, colours)
        if state == -1:
            return False
    return True


def ring(many, stopped):
    """Two runs of two colours: many states in a ring, which go on by all but the stopped colours."""
    return ((2, 2), tuple(
        tuple(-1 if c == stopped and k == many - 1 else (k + 1) % many for c in tuples((2, 2)))
        for k in range(many)))


def bare(counts, many=1):
    """A watcher with these counts and many states, which all go to the last one."""
    return (counts, ((many - 1,) * len(tuples(counts)),) * many)


class WhatIsAWatcher(unittest.TestCase):
    def check_good(self, *watchers):
        for w in watchers:
            with self.subTest(w=w):
                self.assertIsNone(check_watcher(w))

    def check_bad(self, *watchers):
        for w in watchers:
            with self.subTest(w=w):
                self.assertIs(refusal(check_watcher, w), BadWatcher)

    def test_ordinary_watchers(self):
        self.check_good(*WATCHERS)

    def test_counts_of_1_to_3_places(self):
        self.check_good(*[bare((2,) * places) for places in (1, 2, 3)])
        self.check_bad(((), ((0,),)), ((), ((),)), bare((1,) * 4), bare((2,) * 4), bare((2,) * 5))

    def test_counts_from_1_to_4(self):
        self.check_good(*[bare(counts) for counts in ((1,), (4,), (1, 4), (4, 1, 4), (4, 4, 4))])
        self.check_bad(*[bare(counts) for counts in ((5,), (1, 5), (5, 1), (2, 5, 2), (6,))])
        self.check_bad(((0,), ((),)), ((0,), ((0,),)), ((1, 0), ((),)), ((-1,), ((),)), ((-1, -1), ((0,),)))

    def test_1_to_6_states(self):
        self.check_good(*[bare((2, 2), many) for many in range(1, 7)])
        self.check_bad(((2, 2), ()), bare((2, 2), 7), bare((2, 2), 9))

    def test_a_number_for_each_tuple_of_colours(self):
        for counts in ((1,), (4,), (2, 3), (3, 2), (2, 3, 4), (4, 4, 4)):
            many = len(tuples(counts))
            self.check_good((counts, ((0,) * many, (1,) * many)))
            for wrong in (many - 1, many + 1, 2 * many):
                self.check_bad((counts, ((0,) * wrong, (1,) * many)))
                self.check_bad((counts, ((0,) * many, (1,) * wrong)))

    def test_the_numbers_of_a_state(self):
        self.check_good(((2,), ((-1, -1),)), ((2,), ((1, -1), (0, 1))), bare((1,), 6))
        self.check_bad(((2,), ((0, 1),)), ((2,), ((0, -2),)), ((2,), ((0, 2), (1, 1))))
        self.check_bad(((2,), ((0, 1), (1, 2))), ((2,), ((0, 1), (-2, 1))), ((1,), ((6,),) * 6))

    def test_a_pair(self):
        self.check_bad(CALM[:1], (*CALM, 0), (*CALM, ()), (CALM,), (1, ((0,),)), ((1,), (0,)), ((1,), 0))

    def test_other_values(self):
        self.check_bad(*WRONG, *SYSTEMS)

    def test_each_part_counts(self):
        for w in WATCHERS:
            self.check_bad(*swapped(w, ("", "0", -2, 99, True, False, None, (), (None,), deep(45))))

    def test_truth_values_are_no_numbers(self):
        for w in WATCHERS:
            self.assertTrue(truths(w))
            self.check_bad(*truths(w))


class Goes(unittest.TestCase):
    def test_ordinary_steps(self):
        self.assertEqual([goes(SPARSE, 0, (c,)) for c in (0, 1)], [0, 1])
        self.assertEqual([goes(SPARSE, 1, (c,)) for c in (0, 1)], [0, -1])
        self.assertEqual(goes(MIXED, 0, (0, 2)), 0)
        self.assertEqual(goes(MIXED, 0, (1, 0)), 0)
        self.assertEqual(goes(MIXED, 0, (1, 2)), -1)
        self.assertEqual(goes(THREE, 0, (1, 0, 0)), -1)
        self.assertEqual(goes(THREE, 2, (1, 0, 2)), 2)

    def test_each_state_and_each_tuple_of_colours(self):
        places = ((4, 3, 2), (tuple(k % 6 for k in range(24)), tuple((7 * k) % 7 - 1 for k in range(24)),
                              tuple((5 * k) % 7 - 1 for k in range(24)), *((k,) * 24 for k in range(3, 6))))
        for w in (*WATCHERS, places):
            for state in range(len(w[1])):
                for colours in tuples(w[0]):
                    self.assertEqual(goes(w, state, colours), going(w, state, colours))

    def test_refused(self):
        for w in (*WRONG, *truths(SPARSE), bare((5,)), bare((2,), 7)):
            with self.subTest(w=w):
                self.assertIs(refusal(goes, w, 0, (0,)), BadWatcher)


class AcceptsPaths(unittest.TestCase):
    def check_bad_path(self, w, systems, tried):
        with self.subTest(w=w, systems=systems, paths=tried):
            self.assertIs(refusal(accepts_paths, w, systems, tried), BadPath)

    def test_ordinary_paths(self):
        self.assertIs(accepts_paths(SPARSE, (TURNS,), ((0, 1, 0, 1),)), True)
        self.assertIs(accepts_paths(SPARSE, (STAIRS,), ((0, 0, 1),)), True)
        self.assertIs(accepts_paths(SPARSE, (STAIRS,), ((0, 1, 1),)), False)
        self.assertIs(accepts_paths(same(2), (TURNS, STAIRS), ((0, 1), (0, 1))), True)
        self.assertIs(accepts_paths(same(2), (TURNS, STAIRS), ((0, 1), (0, 0))), False)

    def test_one_state_is_read(self):
        self.assertIs(accepts_paths(same(2), (STAIRS, STAIRS), ((0,), (0,))), True)
        self.assertIs(accepts_paths(same(2), (STAIRS, STAIRS), ((0,), (2,))), False)

    def test_what_comes_behind_a_stop_does_not_matter(self):
        self.assertIs(accepts_paths(SPARSE, (WIDE_TWO,), ((1, 1, 0, 0, 0),)), False)
        self.assertIs(accepts_paths(SPARSE, (WIDE_TWO,), ((0, 1, 0, 1, 1),)), False)
        self.assertIs(accepts_paths(SPARSE, (WIDE_TWO,), ((0, 1, 0, 1, 0),)), True)

    def test_colours_are_read_and_not_states(self):
        backwards = (2, (0, 1), ((1, (0, 1)), (0, (0, 1))))
        self.assertIs(accepts_paths(SPARSE, (backwards,), ((1, 1),)), True)
        self.assertIs(accepts_paths(SPARSE, (backwards,), ((0, 0),)), False)

    def test_all_paths_of_1_to_5_states(self):
        lots = ((SPARSE, (STAIRS,)), (MIXED, (TURNS, MAZE)), (MIXED, (STAIRS, MAZE)),
                (THREE, (STAIRS, DULL, MAZE)), (RING, (STAIRS, STAIRS)), (RING, (TURNS, WIDE_TWO)))
        for w, systems in lots:
            for n in (1, 2, 3, 4, 5):
                for tried in itertools.product(*[paths(s, n) for s in systems]):
                    rows = [[s[2][k][0] for k in path] for s, path in zip(systems, tried)]
                    self.assertIs(accepts_paths(w, systems, tried), accepts(w, rows))

    def test_refused_watcher_comes_first(self):
        for w in (*WRONG, *truths(same(2)), bare((5, 2)), bare((2, 2), 7)):
            for systems in ((TURNS, TURNS), (None, None), (), "", (DULL,)):
                for tried in (((0,), (0,)), (), (None,)):
                    with self.subTest(w=w, systems=systems, paths=tried):
                        self.assertIs(refusal(accepts_paths, w, systems, tried), BadWatcher)

    def test_refused_systems_come_next(self):
        wrong = (*WRONG, *truths(TURNS), (5, *DULL[1:]), whole(2, 9))
        for s in wrong:
            for systems in ((s, TURNS), (TURNS, s), (s,), (TURNS, TURNS, s), (DULL, s), (s, s)):
                for tried in (((0,), (0,)), (), ((0,), (1,), (0,)), (None, None)):
                    with self.subTest(systems=systems, paths=tried):
                        self.assertIs(refusal(accepts_paths, same(2), systems, tried), BadSystem)

    def test_refused_systems_that_are_no_tuple(self):
        for systems in (None, True, 2, "", "ab"):
            with self.subTest(systems=systems):
                self.assertIs(refusal(accepts_paths, same(2), systems, ((0,), (0,))), BadSystem)

    def test_as_many_systems_as_counts(self):
        both = ((0, 1), (0, 1))
        self.check_bad_path(same(2), (), both)
        self.check_bad_path(same(2), (TURNS,), both)
        self.check_bad_path(same(2), (TURNS, TURNS, TURNS), both)
        self.check_bad_path(same(2), (TURNS, TURNS, TURNS), (*both, (0, 1)))
        self.check_bad_path(same(2), (TURNS,), both[:1])
        self.check_bad_path(same(2), (), ())
        self.check_bad_path(CALM, (DULL, DULL), ((0,), (0,)))

    def test_as_many_paths_as_counts(self):
        both = (TURNS, TURNS)
        self.check_bad_path(same(2), both, ())
        self.check_bad_path(same(2), both, ((0, 1),))
        self.check_bad_path(same(2), both, ((0, 1), (0, 1), (0, 1)))
        self.check_bad_path(CALM, (DULL,), ())
        self.check_bad_path(CALM, (DULL,), ((0,), (0,)))

    def test_paths_of_the_systems(self):
        for wrong in ((1, 0), (0, 0), (0, 2), (-2, -1), (0, -1), (0, 10 ** 30)):
            self.check_bad_path(same(2), (TURNS, TURNS), (wrong, (0, 1)))
            self.check_bad_path(same(2), (TURNS, TURNS), ((0, 1), wrong))
        self.check_bad_path(same(2), (TURNS, STAIRS), ((0, 0), (0, 1)))

    def test_values_that_are_no_paths(self):
        for wrong in (*WRONG, *truths((0, 1))):
            if wrong != () and refusal(len, wrong) is None and len(wrong) == 2:
                self.check_bad_path(same(2), (TURNS, TURNS), wrong)
            self.check_bad_path(same(2), (TURNS, TURNS), (wrong, (0, 1)))
            self.check_bad_path(same(2), (TURNS, TURNS), ((0, 1), wrong))

    def test_paths_of_one_length(self):
        self.check_bad_path(same(2), (TURNS, TURNS), ((0, 1), (0,)))
        self.check_bad_path(same(2), (TURNS, TURNS), ((0,), (0, 1)))
        self.check_bad_path(same(2), (TURNS, TURNS), ((0, 1, 0, 1, 0), (0, 1, 0, 1)))
        self.check_bad_path(THREE, (TURNS, DULL, MAZE), ((0, 1), (0, 0), (1,)))
        self.check_bad_path(THREE, (TURNS, DULL, MAZE), ((0, 1), (0,), (1, 0)))
        self.assertIs(accepts_paths(THREE, (TURNS, DULL, MAZE), ((0, 1), (0, 0), (1, 0))), True)

    def test_empty_paths_are_none(self):
        self.check_bad_path(same(2), (TURNS, TURNS), ((), ()))
        self.check_bad_path(same(2), (TURNS, TURNS), ((0,), ()))
        self.check_bad_path(CALM, (DULL,), ((),))

    def test_as_many_colours_as_the_counts_say(self):
        dull_in_two = (2, *DULL[1:])
        self.check_bad_path(same(2), (TURNS, DULL), ((0, 1), (0, 0)))
        self.check_bad_path(same(2), (DULL, TURNS), ((0, 0), (0, 1)))
        self.check_bad_path(same(1), (DULL, dull_in_two), ((0,), (0,)))
        self.check_bad_path(MIXED, (MAZE, TURNS), ((1,), (0,)))
        self.assertIs(accepts_paths(same(2), (TURNS, dull_in_two), ((0,), (0,))), True)


class Meet(unittest.TestCase):
    def check_meet(self, v, w):
        """Compares a meet with both at all that can be read, for what one of them stops included."""
        m = meet(v, w)
        self.assertIsNone(check_watcher(m))
        self.assertEqual(m[0], v[0])
        seen = [(0, 0, 0)]
        for at in seen:
            for colours in tuples(v[0]):
                to = tuple(going(*pair, colours) for pair in zip((v, w, m), at))
                self.assertEqual(to[2] == -1, -1 in to[:2])
                if to[2] != -1 and to not in seen:
                    seen.append(to)
        return m

    def test_ordinary_meets(self):
        never_both_1 = ((2, 2), ((0, 0, 0, -1),))
        m = self.check_meet(same(2), never_both_1)
        self.assertEqual([goes(m, 0, c) for c in tuples((2, 2))], [0, -1, -1, -1])
        begins_with_0 = ((2,), ((1, -1), (1, 1)))
        m = self.check_meet(SPARSE, begins_with_0)
        told = {row: accepts(m, (row,)) for row in itertools.product((0, 1), repeat=4)}
        good = [row for row in told if told[row]]
        self.assertEqual(good, [(0, 0, 0, 0), (0, 0, 0, 1), (0, 0, 1, 0), (0, 1, 0, 0), (0, 1, 0, 1)])

    def test_at_most_6_states_multiplied(self):
        for a, b in ((1, 1), (1, 6), (6, 1), (2, 3), (3, 2), (2, 2), (1, 5), (3, 1)):
            with self.subTest(a=a, b=b):
                self.check_meet(ring(a, (0, 1)), ring(b, (1, 1)))
        self.check_meet(RING, same(2))
        self.check_meet(same(2), RING)

    def test_all_counts(self):
        for w in WATCHERS:
            self.check_meet(w, bare(w[0]))
            self.check_meet(bare(w[0]), w)
        self.check_meet(same(4), same(4))
        self.check_meet(bare((4, 4, 4), 2), bare((4, 4, 4), 3))

    def test_what_accepts_nothing(self):
        nothing = ((2,), ((-1, -1),))
        self.check_meet(SPARSE, nothing)
        self.check_meet(nothing, SPARSE)
        self.check_meet(((2,), ((0, -1),)), ((2,), ((-1, 0),)))

    def test_more_than_6_multiplied_but_not_reached(self):
        self.assertEqual(len(self.check_meet(RING, RING)[1]), 6)
        self.check_meet(THREE, THREE)
        self.check_meet(ring(6, (0, 1)), ring(3, (1, 0)))

    def test_too_much(self):
        for a, b in ((4, 3), (3, 4), (5, 2), (5, 6), (6, 5), (2, 5)):
            with self.subTest(a=a, b=b):
                # Each pair of states stops something else, so no watcher with fewer states does it.
                self.assertIs(refusal(meet, ring(a, (0, 1)), ring(b, (1, 1))), TooMuch)

    def test_refused(self):
        for wrong in (*WRONG, *truths(same(2)), bare((5, 2)), bare((2, 2), 7)):
            for w in (same(2), RING, SPARSE, wrong):
                with self.subTest(wrong=wrong, w=w):
                    self.assertIs(refusal(meet, wrong, w), BadWatcher)
                    self.assertIs(refusal(meet, w, wrong), BadWatcher)

    def test_unlike_counts(self):
        for v, w in itertools.permutations((*WATCHERS, same(3), bare((3, 2))), 2):
            if v[0] != w[0]:
                with self.subTest(v=v, w=w):
                    self.assertIs(refusal(meet, v, w), BadWatcher)

    def test_unlike_counts_come_before_too_much(self):
        self.assertIs(refusal(meet, ring(4, (0, 1)), bare((2, 2, 1), 3)), BadWatcher)
        self.assertIs(refusal(meet, bare((2,), 6), ring(5, (0, 1))), BadWatcher)
        self.assertIs(refusal(meet, bare((2, 3), 6), bare((3, 2), 6)), BadWatcher)

    def test_a_wrong_watcher_comes_before_too_much(self):
        counts, states = ring(3, (1, 1))
        wrong = (counts, (*states[:2], (0, 0, 0, True)))
        self.assertIs(refusal(meet, ring(4, (0, 1)), wrong), BadWatcher)
        self.assertIs(refusal(meet, wrong, ring(4, (0, 1))), BadWatcher)


class Turned(unittest.TestCase):
    def test_two_runs(self):
        t = turned(MIXED, (1, 0))
        self.assertEqual(t, ((3, 2), ((-1, 0, 0, 0, 0, -1),)))
        self.assertEqual(goes(t, 0, (2, 1)), -1)
        self.assertEqual(goes(t, 0, (1, 0)), 0)
        first_is_not_greater = ((2, 2), ((0, 0, -1, 0),))
        self.assertEqual(turned(first_is_not_greater, (1, 0)), ((2, 2), ((0, -1, 0, 0),)))

    def test_three_runs_in_a_ring(self):
        # w has the counts of r1, r2, r0: it reads r1 at place 0, r2 at place 1, r0 at place 2.
        w = ((2, 1, 3), ((0, -1, -1, -1, -1, 1), (1,) * 6))
        t = turned(w, (1, 2, 0))
        self.assertEqual(t[0], (3, 2, 1))
        self.assertEqual([goes(t, 0, c) for c in tuples((3, 2, 1))], [0, -1, -1, -1, -1, 1])
        t = turned(w, (2, 0, 1))
        self.assertEqual(t[0], (1, 3, 2))
        self.assertEqual([goes(t, 0, c) for c in tuples((1, 3, 2))], [0, -1, -1, -1, -1, 1])

    def test_each_order(self):
        lopsided = ((2, 3, 4), tuple(tuple((k * step) % 4 - 1 for k in range(24)) for step in (1, 5, 7)))
        for w in (*WATCHERS, lopsided):
            for order in itertools.permutations(range(len(w[0]))):
                with self.subTest(w=w, order=order):
                    t = turned(w, order)
                    self.assertIsNone(check_watcher(t))
                    self.assertEqual([t[0][at] for at in order], list(w[0]))
                    self.assertEqual(len(t[1]), len(w[1]))
                    for state in range(len(w[1])):
                        for c in tuples(t[0]):
                            read = tuple(c[at] for at in order)
                            self.assertEqual(going(t, state, c), going(w, state, read))

    def test_turned_back(self):
        for w in WATCHERS:
            for order in itertools.permutations(range(len(w[0]))):
                back = tuple(order.index(at) for at in range(len(order)))
                self.assertEqual(turned(turned(w, order), back), w)

    def test_not_turned(self):
        for w in WATCHERS:
            self.assertEqual(turned(w, tuple(range(len(w[0])))), w)

    def test_paths_of_a_turned_watcher(self):
        for order in itertools.permutations(range(3)):
            t = turned(THREE, order)
            systems = [None] * 3
            for at, s in zip(order, (STAIRS, DULL, MAZE)):
                systems[at] = s
            for tried in itertools.product(*[paths(s, 3) for s in systems]):
                read = tuple(tried[at] for at in order)
                self.assertIs(accepts_paths(t, tuple(systems), tried),
                              accepts_paths(THREE, (STAIRS, DULL, MAZE), read))

    def test_refused(self):
        for w in (*WRONG, *truths(MIXED), bare((5, 2)), bare((2, 2), 7)):
            with self.subTest(w=w):
                self.assertIs(refusal(turned, w, (1, 0)), BadWatcher)


class Same(unittest.TestCase):
    def test_1_to_4(self):
        for count in (1, 2, 3, 4):
            with self.subTest(count=count):
                w = same(count)
                self.assertIsNone(check_watcher(w))
                self.assertEqual(w[0], (count, count))
                self.assertEqual(len(w[1]), 1)
                for one, other in tuples(w[0]):
                    self.assertEqual(goes(w, 0, (one, other)), 0 if one == other else -1)

    def test_the_table_of_two(self):
        self.assertEqual(same(2), ((2, 2), ((0, -1, -1, 0),)))

    def test_outside_of_1_to_4(self):
        self.assertEqual(same(5)[0], (5, 5))
        self.assertIsNone(refusal(same, 0))


class WhatIsHandedIn(unittest.TestCase):
    def test_stays_as_it_was(self):
        lots = ((goes, SPARSE, 0, (1,)), (accepts_paths, same(2), (TURNS, STAIRS), ((0, 1), (0, 1))),
                (meet, RING, RING), (turned, THREE, (2, 0, 1)), (check_watcher, THREE))
        for function, *arguments in lots:
            before = repr(arguments)
            function(*arguments)
            self.assertEqual(repr(arguments), before)


if __name__ == "__main__":
    unittest.main()
