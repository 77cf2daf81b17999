"""What the questions ask [3.2] and the papers that answer tells: [4.1] to [4.3] and [5.1] to [5.3]."""

import unittest

from parallax.answer import answer, takes
from parallax.errors import BadQuestion, BadSystem, BadWatcher, TooMuch
from parallax.watcher import same
from tests.helper import ANYTHING, DULL, FREE, GUESS, LATE, MAZE, NOT_LESS, RISE, SPARSE, STAIRS, THREE, TURNS, ZEROS
from tests.helper import counter, refusal, second_bell, wheel, wheels, whole
from tests.reference import Dice, first_bad_way, holds, holds_up_to, pairs_led_to, questions, right
from tests.reference import shortest_empty
from tests.wrong import REFUSED


def bell(to):
    """A watcher of three runs that stays in 0 until all show 1, and then goes where it is said."""
    return ((2, 2, 2), ((0,) * 7 + (to,),))


def grid(kind, many, times):
    """A question with 80 leading tuples at each of 5 times, or fewer tuples and more that follows."""
    return (kind, many, (whole(1, 8), whole(1, 5), whole(1, 2)), counter(3, times))


def late_bell(kind, time):
    """A question with 8 leading tuples at each time; what follows comes again after 40 times, from time on."""
    watcher = ((1, 2, 2), ((0, 0, 0, 1), (1,) * 4))
    return (kind, 1, (whole(1, 8), wheel(8, -time), wheel(5, -time)), watcher)


class Told(unittest.TestCase):
    def check_told(self, q, told):
        """Checks that answer tells this, by a right paper which takes takes."""
        with self.subTest(q=q):
            paper = answer(q)
            self.assertEqual(paper[0], told)
            self.assertIs(right(q, paper), True)
            self.assertIs(takes(q, paper), True)
            self.assertEqual(answer(q), paper)
        return paper

    def check_path(self, q, *path):
        """Checks that answer tells "no", by just this path."""
        self.assertEqual(self.check_told(q, "no"), ("no", path))


class AllQuestions(Told):
    def test_each_run_has_one_that_goes_with_it(self):
        self.check_told(("all", 1, (TURNS, FREE), same(2)), "yes")
        self.check_told(("all", 1, (STAIRS, FREE), same(2)), "yes")
        self.check_told(("all", 1, (STAIRS, STAIRS), same(2)), "yes")
        self.check_told(("all", 1, (ZEROS, TURNS), ANYTHING), "yes")
        self.check_told(("all", 1, (STAIRS, ZEROS), NOT_LESS), "yes")

    def test_what_follows_may_know_the_whole_run(self):
        # The second system has to guess at the start what the first one does at time 1.
        self.check_told(("all", 1, (LATE, GUESS), same(2)), "yes")
        self.check_told(("all", 1, (GUESS, LATE), same(2)), "yes")
        self.check_told(("some", 1, (GUESS, LATE), same(2)), "no")
        self.check_path(("all", 1, (LATE, (2, (0,), GUESS[2])), same(2)), (0,), (2,))

    def test_fails_at_the_first_time(self):
        self.check_path(("all", 1, (FREE, ZEROS), same(2)), (1,))
        self.check_path(("all", 1, (STAIRS, TURNS), same(2)), (2,))

    def test_fails_later(self):
        self.check_path(("all", 1, (TURNS, STAIRS), same(2)), (0,), (1,), (0,))
        self.check_path(("all", 1, (RISE, TURNS), same(2)), (0,), (1,), (1,))
        self.check_path(("all", 1, (wheel(7, 1), ZEROS), same(2)), (1,), (2,), (3,), (4,), (5,), (6,), (0,))

    def test_the_shortest_comes_before_the_first(self):
        self.check_path(("all", 1, (FREE, TURNS), same(2)), (1,))
        # The way from start 0 is longer than the one from start 1.
        long_or_short = (2, (0, 1), ((0, (2,)), (0, (3,)), (0, (3,)), (1, (3,))))
        self.check_path(("all", 1, (long_or_short, ZEROS), same(2)), (1,), (3,))

    def test_the_first_of_the_shortest(self):
        fork = (2, (0,), ((0, (1, 2, 3)), (1, (1,)), (0, (2,)), (0, (3,))))
        self.check_path(("all", 1, (fork, TURNS), same(2)), (0,), (2,))
        # Both ways come to the same pair, from which it goes on.
        diamond = (2, (0,), ((0, (1, 2)), (0, (3,)), (0, (3,)), (1, (3,))))
        self.check_path(("all", 1, (diamond, ZEROS), same(2)), (0,), (1,), (3,))
        # The first way by its start ends in a greater tuple than the second one.
        crossed = (2, (0, 1), ((0, (3,)), (0, (2,)), (1, (2,)), (1, (3,))))
        self.check_path(("all", 1, (crossed, ZEROS), same(2)), (0,), (3,))
        self.check_path(("all", 2, (crossed, crossed), ((2, 2), ((0, 0, 0, -1),))), (0, 0), (3, 3))

    def test_none_leads(self):
        self.check_told(("all", 0, (TURNS, FREE), same(2)), "yes")
        self.check_told(("all", 0, (STAIRS,), SPARSE), "yes")
        self.check_path(("all", 0, (TURNS, STAIRS), same(2)), (), (), ())
        self.check_path(("all", 0, (TURNS, (2, (1,), TURNS[2])), same(2)), ())
        self.check_path(("all", 0, (RISE,), SPARSE), (), (), ())

    def test_all_lead(self):
        self.check_told(("all", 2, (TURNS, TURNS), same(2)), "yes")
        self.check_told(("all", 1, (TURNS,), SPARSE), "yes")
        self.check_path(("all", 1, (STAIRS,), SPARSE), (2,), (2,))
        self.check_path(("all", 1, (RISE,), SPARSE), (0,), (1,), (1,))
        self.check_path(("all", 2, (TURNS, STAIRS), same(2)), (0, 2))
        self.check_path(("all", 2, (TURNS, (2, (0,), STAIRS[2])), same(2)), (0, 0), (1, 0))

    def test_three_systems(self):
        # The third shows 1 just where the others are unlike.
        unlike = ((2, 2, 2), ((0, -1, -1, 0, -1, 0, 0, -1),))
        self.check_told(("all", 2, (STAIRS, TURNS, FREE), unlike), "yes")
        self.check_path(("all", 2, (STAIRS, TURNS, ZEROS), unlike), (2, 0))
        self.check_told(("all", 1, (FREE, FREE, FREE), unlike), "yes")
        self.check_told(("all", 1, (FREE, TURNS, FREE), unlike), "yes")
        self.check_path(("all", 3, (FREE, ZEROS, FREE), unlike), (0, 0, 1))
        self.check_path(("all", 0, (TURNS, ZEROS, ZEROS), unlike), (), ())


class SomeQuestions(Told):
    def test_one_run_goes_with_all_others(self):
        self.check_told(("some", 1, (FREE, TURNS), same(2)), "yes")
        self.check_told(("some", 1, (STAIRS, FREE), NOT_LESS), "yes")
        self.check_told(("some", 1, (FREE, FREE), NOT_LESS), "yes")
        self.check_told(("some", 1, (ZEROS, TURNS), ANYTHING), "yes")

    def test_fails_at_the_first_time(self):
        for q in (("some", 1, (TURNS, FREE), same(2)), ("some", 1, (ZEROS, STAIRS), NOT_LESS)):
            self.assertEqual(self.check_told(q, "no"), ("no", ()))

    def test_fails_later(self):
        self.check_told(("some", 1, (RISE, TURNS), same(2)), "no")
        self.check_told(("some", 1, (STAIRS, TURNS), same(2)), "no")
        self.check_told(("some", 1, (STAIRS, RISE), same(2)), "yes")
        self.check_told(("some", 1, (TURNS, RISE), NOT_LESS), "no")
        self.check_told(("some", 1, (ZEROS, wheel(7, 1)), NOT_LESS), "no")

    def test_the_leading_run_does_not_know_the_others(self):
        self.check_told(("some", 1, (FREE, LATE), same(2)), "no")
        self.check_told(("all", 1, (LATE, FREE), same(2)), "yes")

    def test_a_stem_and_a_loop(self):
        # To be accepted, the run has to show 1 from time 2 on.
        told, stem, loop = self.check_told(("some", 1, (STAIRS, RISE), NOT_LESS), "yes")
        self.assertEqual({len(p) for p in stem + loop}, {1})
        told, stem, loop = self.check_told(("some", 1, ((2, (0,), RISE[2]), RISE), same(2)), "yes")
        self.assertEqual((stem + loop * 3)[:3], ((0,), (1,), (1,)))
        # The only run stays in none of its states, and the loop goes through all seven.
        told, stem, loop = self.check_told(("some", 1, (wheel(7), ZEROS), NOT_LESS), "yes")
        self.assertEqual((stem, len(loop)), ((), 7))

    def test_the_loop_may_be_reached_by_one_start_alone(self):
        # Start 0 leads to a dead end only, start 1 to a dead end or on.
        s = (2, (0, 1), ((0, (2,)), (0, (2, 3)), (1, (2,)), (0, (3,))))
        told, stem, loop = self.check_told(("some", 1, (s, ZEROS), same(2)), "yes")
        self.assertEqual((stem + loop * 2)[:2], ((1,), (3,)))

    def test_none_leads(self):
        self.check_told(("some", 0, (TURNS,), SPARSE), "yes")
        self.check_told(("some", 0, (TURNS, TURNS), same(2)), "yes")
        self.check_told(("some", 0, (STAIRS,), SPARSE), "no")
        self.check_told(("some", 0, (STAIRS, RISE), NOT_LESS), "no")

    def test_all_lead(self):
        self.check_told(("some", 1, (STAIRS,), SPARSE), "yes")
        self.check_told(("some", 2, (STAIRS, RISE), same(2)), "yes")
        self.check_told(("some", 2, (TURNS, STAIRS), same(2)), "no")
        self.check_told(("some", 1, (RISE,), SPARSE), "no")

    def test_three_systems(self):
        unlike = ((2, 2, 2), ((0, -1, -1, 0, -1, 0, 0, -1),))
        self.check_told(("some", 1, (FREE, TURNS, TURNS), unlike), "yes")
        self.check_told(("some", 2, (FREE, FREE, TURNS), unlike), "yes")
        self.check_told(("some", 1, (FREE, STAIRS, TURNS), unlike), "no")
        self.check_told(("some", 3, (FREE, FREE, FREE), unlike), "yes")
        self.check_told(("some", 0, (TURNS, TURNS, ZEROS), unlike), "yes")
        self.check_told(("some", 2, (STAIRS, DULL, MAZE), THREE), "no")


class AgainstASearch(Told):
    def check_lots(self, lots):
        told = {}
        for q in lots:
            found = pairs_led_to(q, 400)
            if found is None:
                self.check_beyond(q)
                continue
            true = holds(q, found)
            paper = self.check_told(q, "yes" if true else "no")
            if q[0] == "all" and not true:
                self.assertEqual(paper[1], shortest_empty(q, found))
            shape = (q[0], q[1], len(q[2]), true)
            told[shape] = told.get(shape, 0) + 1
        return told

    def check_beyond(self, q):
        """Checks that answer tells a right paper or TooMuch."""
        if refusal(answer, q) is not TooMuch:
            self.assertIs(right(q, answer(q)), True)

    def test_small_systems(self):
        told = self.check_lots(questions(1, 60))
        self.assertEqual(len(told), 2 * 18)
        self.assertGreater(min(told.values()), 5)

    def test_greater_systems(self):
        told = self.check_lots(questions(2, 20, most_states=8, most_nexts=3))
        self.assertGreater(len(told), 30)

    def test_many_nexts_and_rare_stops(self):
        self.check_lots(questions(3, 15, most_states=5, most_nexts=4, stops=3))
        self.check_lots(questions(4, 15, most_states=3, most_nexts=3, stops=10))

    def test_long_ways(self):
        # Single nexts and rare stops: what fails fails late.
        lots = questions(6, 40, most_states=7, most_nexts=1, stops=3)
        self.check_lots(lots)
        papers = [answer(q) for q in lots]
        lengths = [len(paper[1]) for q, paper in zip(lots, papers) if (q[0], paper[0]) == ("all", "no")]
        self.assertGreater(max(lengths), 20)


class AgainstAllPaths(Told):
    """With paths of up to 4 states in the place of runs, as [3.2] says and accepts_paths tells."""

    def check_up_to(self, q, n):
        paper = answer(q)
        good = holds_up_to(q, n)
        # What holds for a length holds for each lesser one.
        self.assertEqual(good, list(range(1, len(good) + 1)))
        if paper[0] == "yes":
            self.assertEqual(len(good), n)
        elif q[0] == "all":
            self.assertEqual(len(good), min(n, len(paper[1]) - 1))
            if len(paper[1]) <= n:
                self.assertEqual(paper[1], first_bad_way(q, len(paper[1])))
        elif len(paper[1]) < n:
            # A way on which nothing fails comes to another row each time.
            self.assertLessEqual(len(good), len(paper[1]))
        return (q[0], q[1], len(q[2]), paper[0])

    def test_one_and_two_systems(self):
        lots = [q for q in questions(21, 30) if len(q[2]) < 3]
        self.assertEqual(len({self.check_up_to(q, 4) for q in lots}), 2 * 2 * 5)

    def test_three_systems(self):
        lots = [q for q in questions(22, 10, most_states=3) if len(q[2]) == 3]
        self.assertEqual(len({self.check_up_to(q, 3) for q in lots}), 2 * 2 * 4)


class ManyPairs(Told):
    def check_number(self, q, many):
        """Checks that just so many pairs are led to, also behind what fails and behind empty crowds."""
        self.assertEqual(len(pairs_led_to(q)) - 1, many)

    def check_beyond(self, q, told):
        """Checks that more than 400 pairs are answered rightly or by TooMuch."""
        self.assertGreater(len(pairs_led_to(q)) - 1, 400)
        if refusal(answer, q) is not TooMuch:
            self.check_told(q, told)

    def test_just_400_of_a_grid(self):
        for kind in ("all", "some"):
            self.check_number(grid(kind, 3, 5), 400)
            self.check_told(grid(kind, 3, 5), "yes")

    def test_more_than_400_of_a_grid(self):
        for kind in ("all", "some"):
            self.check_beyond(grid(kind, 3, 6), "yes")

    def test_just_400_and_more_with_one_leading(self):
        for kind in ("all", "some"):
            self.check_number(late_bell(kind, 10), 400)
            self.check_told(late_bell(kind, 10), "yes")
            self.check_beyond(late_bell(kind, 11), "yes")

    def test_just_400_and_401_in_a_row(self):
        for kind in ("all", "some"):
            for many in range(4):
                q = (kind, many, wheels(120), second_bell(1))
                self.check_number(q, 400)
                self.check_told(q, "yes")
                self.check_number((kind, many, wheels(121), second_bell(1)), 401)
                self.check_beyond((kind, many, wheels(121), second_bell(1)), "yes")

    def test_ways_of_400(self):
        q = ("all", 0, wheels(119), second_bell(-1))
        self.check_number(q, 400)
        self.check_path(q, *((),) * 400)
        q = ("some", 0, wheels(119), second_bell(-1))
        self.assertEqual(len(self.check_told(q, "no")[1]), 399)

    def test_just_400_with_those_behind_what_fails(self):
        q = ("all", 3, wheels(120), bell(-1))
        self.check_number(q, 400)
        self.assertEqual(len(self.check_told(q, "no")[1]), 121)
        q = ("some", 3, wheels(120), bell(-1))
        self.check_number(q, 400)
        self.assertEqual(len(self.check_told(q, "no")[1]), 120)
        for kind in ("all", "some"):
            self.check_beyond((kind, 3, wheels(121), bell(-1)), "no")

    def test_what_no_paper_that_is_taken_can_tell(self):
        # 512 leading tuples that all want a row; ways and rows that cannot be shorter than 401.
        self.assertIs(refusal(answer, ("all", 3, (whole(1, 8),) * 3, counter(3, 1))), TooMuch)
        self.assertIs(refusal(answer, ("all", 0, wheels(120), second_bell(-1))), TooMuch)
        self.assertIs(refusal(answer, ("some", 0, wheels(121), second_bell(-1))), TooMuch)

    def test_great_systems(self):
        full = (whole(4, 8),) * 3
        going = ((4,) * 3, tuple(tuple((at * 7 + k * 5) % 6 for at in range(64)) for k in range(6)))
        # Wherever the watcher is, four following colours side by side do not all stop it, but one of four may.
        stopping = ((4,) * 3, tuple(tuple((at * 5 + k * 3) % 7 - 1 for at in range(64)) for k in range(6)))
        for many in range(3):
            for kind in ("all", "some"):
                q = (kind, many, full, going)
                self.assertEqual(answer(q)[0], "yes")
                self.assertIs(takes(q, answer(q)), True)
        for many in range(2):
            q = ("all", many, full, stopping)
            self.assertEqual(answer(q)[0], "yes")
            self.assertIs(takes(q, answer(q)), True)
            self.assertEqual(answer(("some", many, full, stopping)), ("no", ()))


class Refused(unittest.TestCase):
    def test_answer(self):
        for q, kind in REFUSED:
            if refusal(answer, q) is not kind:
                self.fail(f"answer of {q!r}: not {kind.__name__}")

    def test_refused_comes_before_too_much(self):
        first, many, systems, w = grid("all", 3, 6)
        self.assertIs(refusal(answer, (first, many, (*systems[:2], (True, *systems[2][1:])), w)), BadSystem)
        self.assertIs(refusal(answer, (first, many, systems, (w[0], (*w[1][:5], (False,))))), BadWatcher)
        self.assertIs(refusal(answer, (first, 4, systems, w)), BadQuestion)


class WhatIsHandedIn(unittest.TestCase):
    def test_stays_as_it_was(self):
        dice = Dice(8)
        for kind in ("all", "some"):
            q = dice.question(kind, 1, 3)
            before = repr(q)
            answer(q)
            self.assertEqual(repr(q), before)


if __name__ == "__main__":
    unittest.main()
