"""Questions [3.1], leading and following tuples [3.3], crowds and what fails [3.4]."""

import itertools
import unittest

from parallax.errors import BadQuestion, BadSystem, BadWatcher
from parallax.question import check_question, fails_first, fails_next, first_crowd, next_crowd, nexts, starts
from parallax.watcher import same
from tests.helper import CALM, DULL, FREE, MAZE, MIXED, NOT_LESS, RING, SPARSE, STAIRS, SYSTEMS, THREE, TURNS
from tests.helper import WATCHERS, WIDE, ZEROS, deep, refusal, swapped, whole
from tests.reference import crowd_in, fails_in, first_going, leading, next_going, next_tuples, pairs_led_to
from tests.reference import questions, start_tuples
from tests.wrong import GOOD, JUNK, REFUSED

# For each watcher of the helper: systems that it can look at.
LOOKED_AT = {CALM: (DULL,), SPARSE: (STAIRS,), MIXED: (TURNS, MAZE), THREE: (STAIRS, DULL, MAZE), RING: (FREE, TURNS)}
TRIPLE = (STAIRS, DULL, MAZE)


class WhatIsAQuestion(unittest.TestCase):
    def check_bad(self, *questions):
        for q in questions:
            with self.subTest(q=q):
                self.assertIs(refusal(check_question, q), BadQuestion)

    def test_ordinary_questions(self):
        for w in WATCHERS:
            for first, many in itertools.product(("all", "some"), range(len(w[0]) + 1)):
                with self.subTest(w=w, first=first, many=many):
                    self.assertIsNone(check_question((first, many, LOOKED_AT[w], w)))

    def test_first_is_all_or_some(self):
        for first in (*JUNK, "", "ALL", "All", " all", "al", "alls", "somewhat", "any", "yes", ("all",), 0, 1):
            self.check_bad((first, *GOOD[1:]))

    def test_many_from_0_to_the_number_of_systems(self):
        for w in WATCHERS:
            for many in (-2, -1, len(w[0]) + 1, len(w[0]) + 2, 10 ** 20):
                self.check_bad(("all", many, LOOKED_AT[w], w), ("some", many, LOOKED_AT[w], w))

    def test_many_is_a_whole_number(self):
        for many in (True, False, None, "", "1", (), (1,), "all"):
            self.check_bad(("all", many, *GOOD[2:]), ("some", many, *GOOD[2:]))

    def test_as_many_systems_as_counts(self):
        self.check_bad(*[("all", 0, (TURNS,) * many, same(2)) for many in (0, 1, 3, 4, 9)])
        self.check_bad(*[("some", 0, (DULL,) * many, CALM) for many in (0, 2, 3, 4)])
        self.check_bad(("all", 2, TRIPLE[:2], THREE), ("all", 3, (*TRIPLE, MAZE), THREE))

    def test_as_many_colours_as_the_count_at_its_place(self):
        self.check_bad(("all", 1, (TURNS, DULL), same(2)), ("all", 1, (DULL, TURNS), same(2)))
        self.check_bad(("some", 1, (MAZE, TURNS), MIXED), ("some", 1, (TURNS, TURNS), MIXED))
        self.check_bad(*[("all", 1, turn, THREE) for turn in itertools.permutations(TRIPLE) if turn != TRIPLE])
        # The colours that a system has count, not those that its states show.
        self.assertIsNone(check_question(("all", 1, (ZEROS, TURNS), same(2))))
        self.check_bad(("all", 1, (DULL, ZEROS), same(1)))

    def test_a_tuple_of_four(self):
        self.check_bad((), GOOD[:1], GOOD[:2], GOOD[:3], (*GOOD, 0), (*GOOD, ()), (GOOD,), GOOD[::-1])

    def test_each_part_counts(self):
        for w in WATCHERS:
            for wrong in JUNK:
                q = ("some", 1, LOOKED_AT[w], w)
                self.check_bad((wrong, *q[1:]), ("some", wrong, *q[2:]))
                self.assertIs(refusal(check_question, (*q[:3], wrong)), BadWatcher)
                for systems in swapped(q[2], (wrong,)):
                    told = refusal(check_question, (*q[:2], systems, w))
                    # Nothing in the place of all systems has a wrong system in it.
                    lacks = not isinstance(systems, tuple) or systems == ()
                    self.assertIs(told, BadQuestion if lacks else BadSystem)


class Refused(unittest.TestCase):
    def check_all(self, function, *arguments):
        for q, kind in REFUSED:
            if refusal(function, q, *arguments) is not kind:
                self.fail(f"{function.__name__} of {q!r}: not {kind.__name__}")

    def test_check_question(self):
        self.check_all(check_question)

    def test_starts_and_nexts(self):
        self.check_all(starts)
        self.check_all(nexts, (0,))

    def test_crowds(self):
        self.check_all(first_crowd, (0,))
        self.check_all(next_crowd, (((0,), 0),), (0,))
        self.check_all(next_crowd, (), (0,))

    def test_what_fails(self):
        self.check_all(fails_first, (0,))
        self.check_all(fails_next, (((0,), 0),), (0,))
        self.check_all(fails_next, (), (0,))

    def test_systems_come_before_the_watcher_and_this_before_the_question(self):
        bad_system, bad_watcher = (5, *TURNS[1:]), (*NOT_LESS, 0)
        for place in range(3):
            systems = [TURNS] * 3
            systems[place] = bad_system
            self.assertIs(refusal(check_question, ("?", -1, tuple(systems), bad_watcher)), BadSystem)
        self.assertIs(refusal(check_question, ("?", -1, (TURNS,) * 3, bad_watcher)), BadWatcher)
        self.assertIs(refusal(check_question, ("?", -1, (), bad_watcher)), BadWatcher)
        self.assertIs(refusal(check_question, ("?", -1, (), NOT_LESS)), BadQuestion)
        self.assertIs(refusal(check_question, ("?", -1, "systems", bad_watcher)), BadQuestion)
        self.assertIs(refusal(check_question, ("all", 1, (bad_system,), bad_watcher, 0)), BadQuestion)
        self.assertIs(refusal(check_question, deep(50)), BadQuestion)
        self.assertIs(refusal(check_question, ("all", 1, deep(49), NOT_LESS)), BadSystem)
        self.assertIs(refusal(check_question, ("all", 1, GOOD[2], deep(49))), BadWatcher)


class LeadingTuples(unittest.TestCase):
    def test_ordinary_tuples(self):
        q = ("all", 2, (STAIRS, DULL, MAZE), THREE)
        self.assertEqual(starts(q), [(0, 0), (2, 0)])
        self.assertEqual(nexts(q, (0, 0)), [(0, 0), (1, 0)])
        self.assertEqual(nexts(q, (1, 0)), [(1, 0)])

    def test_of_the_first_systems_alone(self):
        q = ("some", 1, (TURNS, MAZE), MIXED)
        self.assertEqual(starts(q), [(0,)])
        self.assertEqual([nexts(q, (k,)) for k in (0, 1)], [[(1,)], [(0,)]])

    def test_the_empty_tuple(self):
        for kind in ("all", "some"):
            for w in WATCHERS:
                q = (kind, 0, LOOKED_AT[w], w)
                self.assertEqual(starts(q), [()])
                self.assertEqual(nexts(q, ()), [()])

    def test_all_systems(self):
        q = ("all", 3, TRIPLE, THREE)
        self.assertEqual(starts(q), [(0, 0, 1), (0, 0, 3), (2, 0, 1), (2, 0, 3)])
        self.assertEqual(nexts(q, (0, 0, 1)), [(0, 0, 0), (0, 0, 2), (0, 0, 3), (1, 0, 0), (1, 0, 2), (1, 0, 3)])
        one = ("some", 1, (STAIRS,), SPARSE)
        self.assertEqual(starts(one), [(0,), (2,)])
        self.assertEqual(nexts(one, (0,)), [(0,), (1,)])

    def test_perhaps_of_itself(self):
        q = ("all", 2, (STAIRS, STAIRS), same(2))
        self.assertIn((0, 0), nexts(q, (0, 0)))
        self.assertEqual(nexts(q, (1, 2)), [(1, 2)])

    def test_rising_and_such_as_the_systems_have(self):
        for q in [*questions(3, 4), ("all", 3, (WIDE,) * 3, ((4,) * 3, ((0,) * 64,)))]:
            found = starts(q)
            self.assertIs(type(found), list)
            self.assertEqual(found, start_tuples(leading(q)))
            self.assertEqual(found, sorted(set(found)))
            for p in itertools.product(*[range(min(len(s[2]), 5)) for s in leading(q)]):
                self.assertEqual(nexts(q, p), next_tuples(leading(q), p))
                self.assertIs(type(nexts(q, p)), list)

    def test_a_new_list_each_time(self):
        for many in range(4):
            q = ("all", many, TRIPLE, THREE)
            for tell in (lambda: starts(q), lambda: nexts(q, (0, 0, 1)[:many])):
                found, again = tell(), tell()
                self.assertIsNot(found, again)
                found.append("more")
                found[0] = None
                self.assertEqual(tell(), again)


class Crowds(unittest.TestCase):
    def check_first(self, q, p, crowd, fails):
        self.assertEqual(first_crowd(q, p), crowd)
        self.assertIs(fails_first(q, p), fails)

    def check_next(self, q, before, p, crowd, fails):
        self.assertEqual(next_crowd(q, before, p), crowd)
        self.assertIs(fails_next(q, before, p), fails)

    def test_first_crowds(self):
        q = ("all", 1, (STAIRS, STAIRS), same(2))
        self.check_first(q, (0,), (((0,), 0),), True)
        self.check_first(q, (2,), (((2,), 0),), True)
        self.check_first(("all", 1, (STAIRS, TURNS), same(2)), (0,), (((0,), 0),), False)
        self.check_first(("all", 1, (STAIRS, STAIRS), NOT_LESS), (2,), (((0,), 0), ((2,), 0)), False)

    def test_next_crowds(self):
        q = ("some", 1, (STAIRS, STAIRS), same(2))
        self.check_next(q, (((0,), 0),), (0,), (((0,), 0),), True)
        self.check_next(q, (((0,), 0),), (1,), (((1,), 0),), True)
        self.check_next(q, (((1,), 0),), (1,), (((1,), 0),), False)
        self.check_next(q, (((1,), 0), ((2,), 0)), (1,), (((1,), 0), ((2,), 0)), False)
        self.check_next(q, (((0,), 0), ((2,), 0)), (0,), (((0,), 0),), True)

    def test_the_watcher_goes_by_the_colours_of_this_time(self):
        q = ("some", 0, (STAIRS,), SPARSE)
        self.check_first(q, (), (((0,), 0), ((2,), 1)), False)
        self.check_next(q, (((0,), 0), ((2,), 1)), (), (((0,), 0), ((1,), 1)), True)
        self.check_next(q, (((0,), 0),), (), (((0,), 0), ((1,), 1)), False)
        self.check_next(q, (((1,), 1),), (), (), True)

    def test_a_crowd_fails_for_one_tuple_and_not_for_another(self):
        q = ("some", 1, (FREE, FREE), NOT_LESS)
        self.check_first(q, (0,), (((0,), 0),), True)
        self.check_first(q, (1,), (((0,), 0), ((1,), 0)), False)
        self.check_next(q, (((0,), 0),), (0,), (((0,), 0),), True)
        self.check_next(q, (((0,), 0),), (1,), (((0,), 0), ((1,), 0)), False)

    def test_all_fails(self):
        q = ("all", 1, (TURNS, (2, (1,), TURNS[2])), same(2))
        self.check_first(q, (0,), (), True)
        self.check_next(q, (((0,), 0),), (0,), (), True)

    def test_the_empty_crowd(self):
        for many in range(4):
            for p in starts(("all", many, TRIPLE, THREE)):
                self.check_next(("all", many, TRIPLE, THREE), (), p, (), False)

    def test_nothing_leads(self):
        q = ("all", 0, (TURNS, STAIRS), same(2))
        self.check_first(q, (), (((0, 0), 0),), True)
        self.check_next(q, (((0, 0), 0),), (), (((1, 1), 0),), True)
        self.check_next(q, (((1, 1), 0),), (), (), True)

    def test_nothing_follows(self):
        q = ("some", 2, (TURNS, STAIRS), same(2))
        self.check_first(q, (0, 0), (((), 0),), False)
        self.check_first(q, (0, 2), (), True)
        self.check_next(q, (((), 0),), (1, 1), (((), 0),), False)
        self.check_next(q, (((), 0),), (1, 0), (), True)
        q = ("all", 1, (STAIRS,), SPARSE)
        self.check_first(q, (2,), (((), 1),), False)
        self.check_next(q, (((), 0), ((), 1)), (1,), (((), 1),), True)

    def test_a_following_tuple_with_several_states_of_the_watcher(self):
        q = ("some", 0, (FREE,), ((2,), ((0, 1), (1, 0))))
        self.check_first(q, (), (((0,), 0), ((1,), 1)), False)
        every = (((0,), 0), ((0,), 1), ((1,), 0), ((1,), 1))
        self.check_next(q, every[:1] + every[3:], (), every, False)
        self.check_next(q, every[1:2], (), (((0,), 1), ((1,), 0)), False)

    def test_what_two_pairs_lead_to_stands_once(self):
        q = ("some", 0, (FREE,), ((2,), ((0, 0),)))
        self.check_next(q, (((0,), 0), ((1,), 0)), (), (((0,), 0), ((1,), 0)), False)

    def test_the_first_state_is_0_and_its_tuples_are_starts(self):
        q = ("all", 0, (STAIRS,), ((2,), ((1, 1), (0, 0))))
        self.check_first(q, (), (((0,), 1), ((2,), 1)), False)

    def test_the_same_for_both_kinds(self):
        for q in questions(5, 3):
            for p in starts(q):
                for kind in ("all", "some"):
                    self.assertEqual(first_crowd((kind, *q[1:]), p), first_crowd(q, p))
                    self.assertIs(fails_first((kind, *q[1:]), p), fails_first(q, p))

    def test_all_pairs_that_are_led_to(self):
        failed = []
        for q in questions(7, 60):
            for pair in pairs_led_to(q, 100) or ():
                tuples = starts(q) if pair is None else nexts(q, pair[0])
                for p in tuples:
                    if pair is None:
                        going = first_going(q, p)
                        self.check_first(q, p, crowd_in(going), fails_in(going))
                    else:
                        going = next_going(q, pair[1], p)
                        self.check_next(q, pair[1], p, crowd_in(going), fails_in(going))
                    failed.append(fails_in(going))
        self.assertGreater(failed.count(True), 500)
        self.assertGreater(failed.count(False), 500)

    def test_crowds_are_tuples_that_rise(self):
        for q in questions(9, 3, most_nexts=4, stops=5):
            for p in starts(q):
                crowd = first_crowd(q, p)
                for found in (crowd, next_crowd(q, crowd, nexts(q, p)[-1])):
                    self.assertIs(type(found), tuple)
                    self.assertEqual(list(found), sorted(set(found)))
                    self.assertEqual({type(pair) for pair in found} - {tuple}, set())

    def test_great_crowds(self):
        q = ("all", 0, (WIDE,) * 3, ((4,) * 3, tuple(tuple((at + k) % 6 for at in range(64)) for k in range(6))))
        crowd = first_crowd(q, ())
        self.assertEqual(crowd, crowd_in(first_going(q, ())))
        some = crowd[::40]
        self.check_next(q, some, (), crowd_in(next_going(q, some, ())), False)
        full = tuple(itertools.product(itertools.product(range(8), repeat=3), range(6)))
        self.check_next(q, full, (), full, False)


class WhatIsHandedIn(unittest.TestCase):
    def test_stays_as_it_was(self):
        q, crowd = ("all", 1, (STAIRS, STAIRS), same(2)), (((0,), 0), ((2,), 0))
        before = repr((q, crowd))
        for function in (check_question, starts):
            function(q)
        for function in (nexts, first_crowd, fails_first):
            function(q, (0,))
        for function in (next_crowd, fails_next):
            function(q, crowd, (0,))
        self.assertEqual(repr((q, crowd)), before)

    def test_systems_and_watchers_of_the_helper_are_right(self):
        for s in (*SYSTEMS, FREE, ZEROS, whole(3, 4)):
            self.assertIsNone(check_question(("all", 0, (s,), ((s[0],), ((0,) * s[0],)))))


if __name__ == "__main__":
    unittest.main()
