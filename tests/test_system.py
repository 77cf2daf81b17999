"""Systems [1.1], their paths [1.2] and the rows that they show [6.2]."""

import itertools
import unittest

from parallax.errors import BadSystem, TooMuch
from parallax.system import check_system, is_path, paths, rows
from tests.helper import DULL, MAZE, STAIRS, SYSTEMS, TURNS, WIDE, WRONG
from tests.helper import deep, first_nexts, refusal, swapped, truths, whole

# Two systems with the same shape: just as many paths of 5 states as paths may tell, and one more.
FULL = first_nexts(4, (0, 1), (8, 8, 8, 8, 8, 6, 6, 1))
OVERFULL = first_nexts(4, (0, 1), (8, 7, 5, 7, 7, 7, 8, 6))


def paths_by_trying(s, n):
    """All paths with n states: of all tuples of states, those that [1.2] calls so."""
    _, starts, states = s
    tuples = itertools.product(range(len(states)), repeat=n)
    return [t for t in tuples if t[0] in starts and all(b in states[a][1] for a, b in zip(t, t[1:]))]


def row_is_shown(s, row):
    """Whether s shows the row, told from the states in which it may be."""
    _, now, states = s
    for colour in row:
        if not any(states[k][0] == colour for k in now):
            return False
        now = [after for k in now if states[k][0] == colour for after in states[k][1]]
        now = sorted(set(now))
    return True


class WhatIsASystem(unittest.TestCase):
    def check_good(self, *systems):
        for s in systems:
            with self.subTest(s=s):
                self.assertIsNone(check_system(s))

    def check_bad(self, *systems):
        for s in systems:
            with self.subTest(s=s):
                self.assertIs(refusal(check_system, s), BadSystem)

    def test_ordinary_systems(self):
        self.check_good(*SYSTEMS)

    def test_colours_from_1_to_4(self):
        self.check_good(*[(colours, (0,), ((0, (0,)),)) for colours in (1, 2, 3, 4)])
        self.check_bad(*[(colours, (0,), ((0, (0,)),)) for colours in (-1, 0, 5, 6, 10 ** 20)])

    def test_1_to_8_states(self):
        self.check_good(*[whole(2, many) for many in range(1, 9)])
        self.check_bad((2, (0,), ()), whole(2, 9), whole(2, 12))
        self.check_bad((2, (0,), ((0, (0,)),) * 9))

    def test_the_colour_of_a_state(self):
        self.check_good((3, (0,), ((0, (1,)), (2, (0,)))))
        self.check_bad((3, (0,), ((0, (1,)), (3, (0,)))))
        self.check_bad((3, (0,), ((-1, (1,)), (2, (0,)))))
        self.check_bad((1, (0,), ((1, (0,)),)))
        self.check_bad((4, (0,), ((4, (0,)),)))

    def test_starts(self):
        states = ((0, (0,)), (0, (1,)), (0, (2,)))
        self.check_good(*[(1, starts, states) for starts in ((0,), (2,), (0, 2), (0, 1, 2))])
        self.check_bad(*[(1, starts, states) for starts in ((), (1, 0), (1, 1), (0, 2, 1), (0, 0, 1))])
        self.check_bad(*[(1, starts, states) for starts in ((3,), (-1,), (-1, 0), (0, 3), (0, 1, 2, 3))])
        self.check_bad((1, 0, states), (1, None, states), (1, "0", states))

    def test_nexts(self):
        def with_nexts(nexts):
            return (1, (0,), ((0, (1,)), (0, nexts), (0, (2,))))

        self.check_good(*[with_nexts(nexts) for nexts in ((0,), (1,), (2,), (0, 2), (0, 1, 2))])
        self.check_bad(*[with_nexts(nexts) for nexts in ((), (1, 0), (1, 1), (0, 2, 1), (0, 0, 1))])
        self.check_bad(*[with_nexts(nexts) for nexts in ((3,), (-1,), (-1, 0), (0, 3), (0, 1, 2, 3))])
        self.check_bad(*[with_nexts(nexts) for nexts in (0, None, "0", ((0,),))])

    def test_the_last_state_counts_too(self):
        good = whole(4, 8)
        last = good[2][7]
        for wrong in ((4, last[1]), (last[0], ()), (last[0], (7, 8)), (last[0],), (*last, 0), ()):
            self.check_bad((*good[:2], (*good[2][:7], wrong)))

    def test_a_triple_of_pairs(self):
        self.check_bad(DULL[:2], (*DULL, 0), (*DULL, ()), (DULL,))
        self.check_bad((1, (0,), ((0,),)), (1, (0,), ((0, (0,), 0),)), (1, (0,), (0, (0,))))

    def test_other_values(self):
        self.check_bad(*WRONG)

    def test_each_part_counts(self):
        for s in SYSTEMS:
            self.check_bad(*swapped(s, ("", "0", -1, 99, True, False, None, (), (None,), deep(45))))

    def test_truth_values_are_no_numbers(self):
        for s in SYSTEMS:
            self.assertTrue(truths(s))
            self.check_bad(*truths(s))


class Refused(unittest.TestCase):
    def test_what_is_no_system(self):
        wrong = (*WRONG, *truths(TURNS), (5, *DULL[1:]), whole(4, 9))
        for s in wrong:
            with self.subTest(s=s):
                self.assertIs(refusal(is_path, s, (0,)), BadSystem)
                self.assertIs(refusal(is_path, s, ()), BadSystem)
                self.assertIs(refusal(paths, s, 2), BadSystem)
                self.assertIs(refusal(paths, s, 0), BadSystem)
                self.assertIs(refusal(rows, s, 2), BadSystem)
                self.assertIs(refusal(rows, s, 0), BadSystem)

    def test_refused_before_too_much(self):
        for s in ((5, *WIDE[1:]), (True, *WIDE[1:]), whole(4, 9)):
            self.assertIs(refusal(paths, s, 5), BadSystem)


class IsPath(unittest.TestCase):
    def test_ordinary_paths(self):
        self.assertIs(is_path(TURNS, (0, 1, 0, 1)), True)
        self.assertIs(is_path(TURNS, (0, 1, 1)), False)
        self.assertIs(is_path(STAIRS, (0, 0, 1, 1)), True)
        self.assertIs(is_path(STAIRS, (2, 2)), True)
        self.assertIs(is_path(STAIRS, (0, 2)), False)
        self.assertIs(is_path(STAIRS, (0, 1, 0)), False)

    def test_begins_with_a_start(self):
        self.assertEqual([is_path(STAIRS, (k,)) for k in range(3)], [True, False, True])
        self.assertIs(is_path(STAIRS, (1, 1)), False)
        self.assertIs(is_path(TURNS, (1, 0)), False)

    def test_the_empty_one_is_none(self):
        for s in SYSTEMS:
            self.assertIs(is_path(s, ()), False)

    def test_numbers_that_are_no_states(self):
        ends = ((-1,), (2,), (0, 2), (0, -1), (0, 1, 2), (0, 1, -2), (10 ** 30,), (0, -10 ** 30))
        middles = ((2, 0), (-1, 0), (-2, 1), (0, 2, 0), (0, -1, 0), (0, 1, 2, 1), (10 ** 30, 0), (-10 ** 30, 1))
        for path in (*ends, *middles):
            with self.subTest(path=path):
                self.assertIs(is_path(TURNS, path), False)

    def test_values_that_are_no_path(self):
        for path in (None, "", "0", 0, True, (None,), ("0",), ((0,),), (0, (1,)), deep(50)):
            with self.subTest(path=path):
                self.assertIs(is_path(TURNS, path), False)

    def test_truth_values_are_no_states(self):
        self.assertIs(is_path(TURNS, (False,)), False)
        self.assertIs(is_path(TURNS, (0, True)), False)

    def test_each_tuple_of_states(self):
        for s in (DULL, TURNS, STAIRS, MAZE):
            for n in (1, 2, 3, 4, 5):
                right = {path: True for path in paths_by_trying(s, n)}
                for path in itertools.product(range(len(s[2])), repeat=n):
                    self.assertIs(is_path(s, path), path in right)

    def test_long_paths(self):
        self.assertIs(is_path(TURNS, (0, 1) * 500), True)
        self.assertIs(is_path(TURNS, (0, 1) * 500 + (1,)), False)


class Paths(unittest.TestCase):
    def test_ordinary_paths(self):
        self.assertEqual(paths(TURNS, 3), [(0, 1, 0)])
        self.assertEqual(paths(STAIRS, 3), [(0, 0, 0), (0, 0, 1), (0, 1, 1), (2, 2, 2)])

    def test_1_to_5_states_rising(self):
        for s in (DULL, TURNS, STAIRS, MAZE):
            for n in (1, 2, 3, 4, 5):
                with self.subTest(s=s, n=n):
                    found = paths(s, n)
                    self.assertIs(type(found), list)
                    self.assertEqual(found, paths_by_trying(s, n))
                    self.assertEqual(found, sorted(set(found)))

    def test_just_5000_paths(self):
        for s in (FULL, whole(4, 8)):
            n = 5 if s == FULL else 4
            found = paths(s, n)
            self.assertEqual(found, paths_by_trying(s, n))
            self.assertEqual(len(found), 5000 if s == FULL else 4096)

    def test_one_more_is_too_much(self):
        self.assertEqual(len(paths_by_trying(OVERFULL, 5)), 5001)
        self.assertIs(refusal(paths, OVERFULL, 5), TooMuch)
        self.assertIsNone(refusal(paths, OVERFULL, 4))
        self.assertIs(refusal(paths, WIDE, 5), TooMuch)

    def test_outside_of_1_to_5(self):
        self.assertEqual(paths(MAZE, 0), [])
        self.assertEqual(paths(MAZE, -2), [])
        self.assertEqual(paths(MAZE, 6), paths_by_trying(MAZE, 6))
        self.assertEqual(paths(TURNS, 40), [(0, 1) * 20])
        self.assertIs(refusal(paths, WIDE, 12), TooMuch)

    def test_a_new_list_each_time(self):
        found = paths(STAIRS, 2)
        again = paths(STAIRS, 2)
        self.assertIsNot(found, again)
        found.append("more")
        found[0] = None
        self.assertEqual(paths(STAIRS, 2), again)


class Rows(unittest.TestCase):
    def test_ordinary_rows(self):
        self.assertEqual(rows(TURNS, 4), [(0, 1, 0, 1)])
        self.assertEqual(rows(STAIRS, 3), [(0, 0, 0), (0, 0, 1), (0, 1, 1), (1, 1, 1)])

    def test_a_row_of_several_paths_stands_once(self):
        two_ways = (2, (0, 1), ((0, (2,)), (0, (2,)), (1, (0, 1))))
        self.assertEqual(rows(two_ways, 3), [(0, 1, 0)])

    def test_a_row_is_gone_on_by_all_its_states(self):
        fork = (2, (0, 1), ((0, (0,)), (0, (2,)), (1, (2,))))
        self.assertEqual(rows(fork, 2), [(0, 0), (0, 1)])

    def test_0_colours(self):
        for s in SYSTEMS:
            self.assertEqual(rows(s, 0), [()])

    def test_rising_and_such_as_the_paths_show(self):
        for s in (DULL, TURNS, STAIRS, MAZE, FULL):
            for n in (1, 2, 3, 4) if s == FULL else (1, 2, 3, 4, 5, 6):
                with self.subTest(s=s, n=n):
                    found = rows(s, n)
                    self.assertIs(type(found), list)
                    shown = {tuple(s[2][k][0] for k in path) for path in paths_by_trying(s, n)}
                    self.assertEqual(found, sorted(shown))

    def test_8_colours(self):
        for s in (DULL, TURNS, STAIRS, MAZE, FULL, OVERFULL):
            with self.subTest(s=s):
                tuples = itertools.product(range(s[0]), repeat=8)
                self.assertEqual(rows(s, 8), [row for row in tuples if row_is_shown(s, row)])

    def test_as_many_as_can_be(self):
        self.assertEqual(rows(WIDE, 8), list(itertools.product(range(4), repeat=8)))

    def test_outside_of_0_to_8(self):
        self.assertEqual(rows(TURNS, -1), [])
        self.assertEqual(rows(TURNS, 20), [(0, 1) * 10])

    def test_a_new_list_each_time(self):
        for n in (0, 2):
            found = rows(STAIRS, n)
            again = rows(STAIRS, n)
            self.assertIsNot(found, again)
            found.append("more")
            found[0] = None
            self.assertEqual(rows(STAIRS, n), again)


if __name__ == "__main__":
    unittest.main()
