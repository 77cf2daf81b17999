"""Systems that are shown by one another [6.1], beside the rows that they show [6.2]."""

import unittest

from parallax.answer import answer, takes
from parallax.errors import BadQuestion, BadSystem, TooMuch
from parallax.looks import equal_looks, shown_by
from parallax.system import rows
from parallax.watcher import same
from tests.helper import DULL, FREE, GUESS, LATE, MAZE, NOT_LESS, RISE, STAIRS, SYSTEMS, TURNS, WIDE, WRONG, ZEROS
from tests.helper import deep, refusal, swapped, truths, wheel, whole
from tests.reference import Dice, pairs_led_to, right
from tests.wrong import JUNK


def slow(start):
    """A system of one colour that is in all of its states at once only after 50 times, or a few times less."""
    return (1, (start,), (*[(0, (k + 1,)) for k in range(7)], (0, (0, 1))))


def two_systems(seed, many):
    """Pairs of systems with the same colours."""
    dice = Dice(seed)
    for _ in range(many):
        colours = dice.number(1, 3)
        yield tuple(dice.system(colours, dice.number(1, 5), dice.number(1, 3)) for _ in range(2))


class ShownBy(unittest.TestCase):
    def test_what_is_shown(self):
        for s, t in ((TURNS, FREE), (STAIRS, FREE), (ZEROS, STAIRS), (RISE, STAIRS), (STAIRS, STAIRS), (WIDE, WIDE)):
            with self.subTest(s=s, t=t):
                paper = shown_by(s, t)
                q = ("all", 1, (s, t), same(s[0]))
                self.assertEqual(paper[0], "yes")
                self.assertIs(right(q, paper), True)
                self.assertIs(takes(q, paper), True)

    def test_what_is_not_shown(self):
        self.assertEqual(shown_by(TURNS, STAIRS), ("no", ((0,), (1,), (0,))))
        self.assertEqual(shown_by(STAIRS, TURNS), ("no", ((2,),)))
        self.assertEqual(shown_by(FREE, RISE), ("no", ((1,),)))
        self.assertEqual(shown_by(RISE, ZEROS), ("no", ((0,), (1,))))
        self.assertEqual(shown_by(WIDE, (4, *TURNS[1:])), ("no", ((1,),)))

    def test_runs_that_each_other_run_shows_in_part(self):
        # Each path of the first one is shown by one of the second one, which chose another start for it.
        self.assertEqual([shown_by(LATE, GUESS)[0], shown_by(GUESS, LATE)[0]], ["yes", "yes"])

    def test_it_is_the_answer_to_its_question(self):
        for s, t in two_systems(61, 60):
            self.assertEqual(shown_by(s, t), answer(("all", 1, (s, t), same(s[0]))))

    def test_each_system_shows_itself(self):
        for s in SYSTEMS:
            self.assertEqual(shown_by(s, s)[0], "yes")

    def test_beside_the_rows(self):
        seen = set()
        for s, t in two_systems(62, 200):
            word, found = shown_by(s, t)
            lengths = [n for n in range(9) if set(rows(s, n)) <= set(rows(t, n))]
            seen.add(word)
            if word == "yes":
                self.assertEqual(lengths, list(range(9)))
            else:
                # The path is as short as can be, so it shows the first row that the other one lacks.
                self.assertEqual(lengths, list(range(min(9, len(found)))))
                row = tuple(s[2][k][0] for (k,) in found)
                if len(row) < 9:
                    self.assertIn(row, rows(s, len(row)))
                    self.assertNotIn(row, rows(t, len(row)))
        self.assertEqual(seen, {"yes", "no"})


class Looks(unittest.TestCase):
    def test_equal_looks(self):
        for s in (*SYSTEMS, ZEROS, FREE):
            self.assertIs(equal_looks(s, s), True)
        self.assertIs(equal_looks(ZEROS, (2, (0, 1), ((0, (1,)), (0, (0, 1))))), True)
        self.assertIs(equal_looks(TURNS, (2, (1,), ((1, (1,)), (0, (2,)), (1, (3,)), (0, (2,))))), True)
        self.assertIs(equal_looks(wheel(2), (2, (3,), ((0, (3,)), (0, (2,)), (1, (1,)), (1, (0, 1))))), True)
        self.assertIs(equal_looks(wheel(2), (2, (3,), ((0, (3,)), (0, (2,)), (1, (2,)), (1, (0, 1))))), False)
        self.assertIs(equal_looks(DULL, slow(1)), True)

    def test_each_by_the_other(self):
        for s, t in ((TURNS, FREE), (ZEROS, STAIRS), (RISE, STAIRS)):
            self.assertEqual(shown_by(s, t)[0], "yes")
            self.assertEqual(shown_by(t, s)[0], "no")
            self.assertIs(equal_looks(s, t), False)
            self.assertIs(equal_looks(t, s), False)
        self.assertIs(equal_looks(TURNS, STAIRS), False)

    def test_both_ways(self):
        seen = []
        for s, t in two_systems(63, 200):
            both = shown_by(s, t)[0] == shown_by(t, s)[0] == "yes"
            self.assertIs(equal_looks(s, t), both)
            self.assertIs(equal_looks(t, s), both)
            seen.append(both)
        self.assertGreater(min(seen.count(True), seen.count(False)), 20)


class Refused(unittest.TestCase):
    def check_both(self, kind, *lots):
        for s, t in lots:
            for function in (shown_by, equal_looks):
                if refusal(function, s, t) is not kind:
                    self.fail(f"{function.__name__} of {s!r} and {t!r}: not {kind.__name__}")

    def test_what_is_no_system(self):
        wrong = (*WRONG, *JUNK, *truths(TURNS), *swapped(TURNS, JUNK), (5, *DULL[1:]), whole(2, 9), NOT_LESS, deep(50))
        for s in wrong:
            self.check_both(BadSystem, (s, TURNS), (TURNS, s), (s, s), (s, DULL), (DULL, s), (s, MAZE), (MAZE, s))

    def test_unlike_colours(self):
        self.check_both(BadQuestion, (TURNS, DULL), (DULL, TURNS), (MAZE, FREE), (WIDE, MAZE), (DULL, (2, *DULL[1:])))
        self.check_both(BadQuestion, ((3, *TURNS[1:]), TURNS), (TURNS, (4, *TURNS[1:])))

    def test_no_system_comes_before_unlike_colours(self):
        for wrong in ((3, (0,), ((0, (1,)),)), (3, (0,), ()), (0, (0,), ((0, (0,)),)), (True, *DULL[1:]), 3, None):
            self.check_both(BadSystem, (wrong, TURNS), (TURNS, wrong), (wrong, DULL), (DULL, wrong))

    def test_unlike_colours_come_before_too_much(self):
        self.check_both(BadQuestion, ((2, *whole(1, 8)[1:]), slow(0)), (slow(0), (2, *whole(1, 8)[1:])))


class ManyPairs(unittest.TestCase):
    def test_just_400_are_answered(self):
        s, t = whole(1, 8), slow(1)
        q = ("all", 1, (s, t), same(1))
        self.assertEqual(len(pairs_led_to(q)) - 1, 400)
        self.assertEqual(shown_by(s, t)[0], "yes")
        self.assertIs(right(q, shown_by(s, t)), True)
        self.assertEqual(shown_by(t, s)[0], "yes")
        self.assertIs(equal_looks(s, t), True)
        self.assertIs(equal_looks(t, s), True)

    def test_more_are_answered_or_too_much(self):
        s, t = whole(1, 8), slow(0)
        q = ("all", 1, (s, t), same(1))
        self.assertEqual(len(pairs_led_to(q)) - 1, 408)
        self.assertEqual(refusal(shown_by, s, t), refusal(answer, q))
        self.assertEqual(shown_by(t, s)[0], "yes")
        for function in (shown_by, equal_looks):
            for pair in ((s, t), (t, s)):
                self.assertIn(refusal(function, *pair), (None, TooMuch))
        if refusal(shown_by, s, t) is None:
            self.assertIs(right(q, shown_by(s, t)), True)


class WhatIsHandedIn(unittest.TestCase):
    def test_stays_as_it_was(self):
        before = repr((STAIRS, TURNS))
        shown_by(STAIRS, TURNS)
        equal_looks(TURNS, STAIRS)
        self.assertEqual(repr((STAIRS, TURNS)), before)


if __name__ == "__main__":
    unittest.main()
