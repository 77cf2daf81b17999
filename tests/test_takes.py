"""Which papers takes takes: [4.1], [4.2], [5.1] and [5.2], and what the interface says of takes."""

import itertools
import unittest

from parallax.answer import answer, takes
from parallax.errors import TooMuch
from parallax.watcher import same
from tests.helper import ANYTHING, DULL, FREE, GUESS, LATE, NOT_LESS, RISE, SPARSE, STAIRS, TURNS, WRONG, ZEROS
from tests.helper import deep, refusal, second_bell, swapped, truths, wheel, wheels, whole
from tests.reference import following, leading, next_tuples, questions, right
from tests.wrong import JUNK, REFUSED


def at(*states):
    """The crowd of one following system in these states, the watcher being in 0."""
    return tuple(((state,), 0) for state in states)


def bells(many, last):
    """A watcher of a run that shows 0 for ever and one of two colours: it counts the times that this shows 1.

    From the last of its states it goes where it is said.
    """
    return ((1, 2), (*[(k, k + 1) for k in range(many - 1)], (many - 1, last)))


class Takes(unittest.TestCase):
    def check(self, q, taken, *papers):
        for paper in papers:
            with self.subTest(q=q, paper=paper):
                self.assertIs(takes(q, paper), taken)
                self.assertIs(right(q, paper), taken)

    def check_as_right(self, q, *papers):
        """Checks that takes tells of each of the papers what the document's words tell."""
        for paper in papers:
            taken = takes(q, paper)
            if taken is not right(q, paper):
                self.fail(f"takes({q!r}, {paper!r}) is {taken!r}")


class AllYes(Takes):
    q = ("all", 1, (TURNS, FREE), same(2))
    rows = (((0,), at(0)), ((1,), at(1)))
    guessed = ("all", 1, (LATE, GUESS), same(2))
    guessed_rows = (((0,), at(0, 1)), ((1,), at(2)), ((2,), at(3)))

    def check_rows(self, q, taken, *lots):
        self.check(q, taken, *[("yes", rows) for rows in lots])

    def test_ordinary_rows(self):
        self.check_rows(self.q, True, self.rows)
        self.check_rows(self.guessed, True, self.guessed_rows)

    def test_order_does_not_matter(self):
        self.check_rows(self.q, True, self.rows[::-1])
        self.check_rows(self.guessed, True, *itertools.permutations(self.guessed_rows))

    def test_a_row_may_stand_twice(self):
        self.check_rows(self.q, True, self.rows + self.rows, self.rows + self.rows[:1], self.rows[1:] + self.rows)

    def test_a_row_less(self):
        self.check_rows(self.q, False, self.rows[:1], self.rows[1:], ())
        self.check_rows(self.guessed, False, *itertools.combinations(self.guessed_rows, 2))

    def test_a_row_for_each_start(self):
        q = ("all", 1, (STAIRS, FREE), same(2))
        rows = (((0,), at(0)), ((1,), at(1)), ((2,), at(1)))
        self.check_rows(q, True, rows)
        self.check_rows(q, False, rows[:2], rows[1:], rows[::2])

    def test_no_rows(self):
        for q in (self.q, self.guessed, ("all", 0, (TURNS,), SPARSE), ("all", 1, (FREE, ZEROS), same(2))):
            self.check_rows(q, False, ())

    def test_a_crowd_within_the_first_crowd(self):
        q = ("all", 1, (ZEROS, FREE), ANYTHING)
        self.check_rows(q, True, *[(((0,), crowd),) for crowd in (at(0), at(1), at(0, 1))])
        self.check_rows(self.q, False, (((0,), at(1)), self.rows[1]), (((0,), at(0, 1)), self.rows[1]))

    def test_a_crowd_within_the_next_crowd(self):
        self.check_rows(self.q, False, (self.rows[0], ((1,), at(0))), (self.rows[0], ((1,), at(0, 1))))

    def test_a_smaller_crowd_leads_to_less(self):
        for crowd in (at(0), at(1)):
            self.check_rows(self.guessed, False, (((0,), crowd), *self.guessed_rows[1:]))

    def test_several_rows_for_a_tuple(self):
        more = (((0,), at(0)), ((1,), at(2)), ((2,), at(3)))
        # The row with the smaller crowd belongs to the rows too, and leads to no row for (2,).
        self.check_rows(self.guessed, False, (*self.guessed_rows, more[0]), (more[0], *self.guessed_rows))
        self.check_rows(self.guessed, True, (*self.guessed_rows, *more[1:]))
        q = ("all", 1, (ZEROS, FREE), ANYTHING)
        self.check_rows(q, True, (((0,), at(0)), ((0,), at(1))), (((0,), at(0, 1)), ((0,), at(1))))

    def test_rows_that_nothing_leads_to_count_too(self):
        q = ("all", 1, ((2, (0,), ((0, (0,)), (1, (1,)))), ZEROS), same(2))
        row = ((0,), at(0))
        self.check_rows(q, True, (row,))
        self.check_rows(q, False, (row, ((1,), at(0))), (((1,), at(0)), row))
        q = ("all", 1, ((2, (0,), ((0, (0,)), (1, (1,)))), FREE), same(2))
        self.check_rows(q, True, (row, ((1,), at(1))), (((1,), at(0)), ((1,), at(1)), row))

    def test_crowds_are_not_empty_and_rise(self):
        q = ("all", 1, (ZEROS, FREE), ANYTHING)
        self.check_rows(q, False, *[(((0,), crowd),) for crowd in ((), at(1, 0), at(0, 0), at(0, 1, 1), at(0, 1, 0))])
        # An empty crowd would be within all others.
        self.check_rows(q, False, (((0,), at(0)), ((0,), ())))

    def test_of_what_rows_consist(self):
        q = ("all", 1, (ZEROS, FREE), ANYTHING)
        row = ((0,), at(0, 1))
        self.check_rows(q, True, (row,))
        wrong = ((*row, 0), (*row, row), row[:1], row[::-1], (), None, "ab", 0, ((1,), at(0)), ((-1,), at(0)))
        self.check_rows(q, False, *[(one,) for one in wrong], *[(row, one) for one in wrong], row, *wrong, ((row,),))
        tuples = ((), (0, 0), 0, None, "0", (False,), (None,), ((0,),))
        self.check_rows(q, False, *[((p, at(0)),) for p in tuples], *[((p, at(0)), row) for p in tuples])
        pairs = ((2,), 0), ((-1,), 0), ((0,), 1), ((0,), -1), ((0,), False), ((False,), 0), (0, 0), ((), 0), ((0, 0), 0)
        self.check_rows(q, False, *[(((0,), (pair,)),) for pair in pairs], *[(row, ((0,), (pair,))) for pair in pairs])
        others = (((0,),), ((0,), 0, 0), (0,), (), None, "", 0, ((0,), None), (None, 0), ((0,), (0,)))
        self.check_rows(q, False, *[(((0,), (pair,)),) for pair in others], *[(((0,), pair),) for pair in others])

    def test_none_leads(self):
        q = ("all", 0, (TURNS, FREE), same(2))
        rows = (((), (((0, 0), 0),)), ((), (((1, 1), 0),)))
        self.check_rows(q, True, rows, rows[::-1])
        self.check_rows(q, False, rows[:1], rows[1:], (((0,), rows[0][1]), rows[1]))

    def test_all_lead(self):
        q = ("all", 2, (TURNS, TURNS), same(2))
        rows = (((0, 0), (((), 0),)), ((1, 1), (((), 0),)))
        self.check_rows(q, True, rows)
        self.check_rows(q, False, rows[:1], (((0, 0), ()), ((1, 1), ())), (((0, 0), (((0,), 0),)), rows[1]))

    def test_400_rows(self):
        for q, rows in ((self.q, self.rows), (self.guessed, self.guessed_rows)):
            for many in (399, 400):
                self.check_rows(q, True, (rows * 200)[:many])
            for many in (401, 402, 600):
                self.check_rows(q, False, (rows * 300)[:many])


class AllNo(Takes):
    q = ("all", 1, (TURNS, STAIRS), same(2))
    path = ((0,), (1,), (0,))

    def check_paths(self, q, taken, *paths):
        self.check(q, taken, *[("no", path) for path in paths])

    def test_ordinary_paths(self):
        self.check_paths(self.q, True, self.path)
        self.check_paths(("all", 1, (FREE, ZEROS), same(2)), True, ((1,),), ((0,), (1,)), ((0,), (0,), (1,)))

    def test_it_need_not_be_the_shortest(self):
        self.check_paths(self.q, True, (*self.path, (1,)), (*self.path, (1,), (0,), (1,)))
        self.check_paths(("all", 1, (FREE, ZEROS), same(2)), True, ((1,), (0,)), ((1,), (1,), (0,)))

    def test_it_ends_in_the_empty_crowd(self):
        self.check_paths(self.q, False, self.path[:1], self.path[:2])
        self.check_paths(("all", 1, (FREE, ZEROS), same(2)), False, ((0,),), ((0,), (0,)))
        # Something fails all along the way, but there is always something left.
        self.check_paths(("all", 1, (ZEROS, FREE), same(2)), False, *[((0,),) * many for many in (1, 2, 9)])

    def test_the_empty_path_is_none(self):
        for many in range(3):
            self.check_paths(("all", many, (TURNS, STAIRS), same(2)), False, ())

    def test_it_begins_with_a_start(self):
        self.check_paths(self.q, False, ((1,), (0,)), self.path[1:], ((1,), *self.path))
        q = ("all", 1, ((2, (0,), FREE[2]), ZEROS), same(2))
        self.check_paths(q, True, ((0,), (1,)))
        self.check_paths(q, False, ((1,),), ((1,), (1,)))

    def test_each_is_a_next_of_the_one_before(self):
        self.check_paths(self.q, False, ((0,), (0,)), ((0,), (1,), (1,)), (*self.path, (0,)), ((0,), (0,), (1,), (0,)))
        self.check_paths(("all", 2, (TURNS, STAIRS), same(2)), False, ((0, 0), (1, 2)), ((0, 0), (0, 1)))

    def test_of_what_a_path_consists(self):
        wrong = ((), (0, 0), 0, None, "0", (False,), (None,), ((0,),), (2,), (-1,), (-2,), (10 ** 30,))
        for p in wrong:
            self.check_paths(self.q, False, p, (p,), (p, *self.path[1:]), (*self.path, p), (*self.path[:2], p))

    def test_none_leads(self):
        q = ("all", 0, (TURNS, STAIRS), same(2))
        self.check_paths(q, True, ((),) * 3, ((),) * 4, ((),) * 50)
        self.check_paths(q, False, (), ((),), ((),) * 2, ((0,),) * 3, (0,) * 3, ((),) * 2 + ((0,),))

    def test_all_lead(self):
        q = ("all", 2, (TURNS, STAIRS), same(2))
        self.check_paths(q, True, ((0, 2),), ((0, 0), (1, 0)), ((0, 0), (1, 1), (0, 1)), ((0, 2), (1, 2)))
        self.check_paths(q, False, ((0, 0),), ((0, 0), (1, 1)), ((0,),), ((0, 2, 0),), ((0, 1),))

    def test_of_true_questions(self):
        q = ("all", 1, (TURNS, FREE), same(2))
        self.check_paths(q, False, *[(((0,), (1,)) * 20)[:many] for many in range(40)])

    def test_a_path_of_400(self):
        self.check_paths(self.q, True, ((0,), (1,)) * 200, (((0,), (1,)) * 200)[:399])
        self.check_paths(self.q, False, (((0,), (1,)) * 201)[:401], ((0,), (1,)) * 300)
        late = ("all", 0, wheels(119), second_bell(-1))
        self.check_paths(late, True, ((),) * 400)
        self.check_paths(late, False, ((),) * 399, ((),) * 401)
        later = ("all", 0, wheels(120), second_bell(-1))
        self.check_paths(later, False, ((),) * 400, ((),) * 401)


class SomeYes(Takes):
    q = ("some", 1, (STAIRS, RISE), NOT_LESS)

    def check_ways(self, q, taken, *ways):
        self.check(q, taken, *[("yes", *way) for way in ways])

    def test_ordinary_ways(self):
        self.check_ways(self.q, True, (((0,), (1,)), ((1,),)), (((2,),), ((2,),)))
        self.check_ways(("some", 1, (FREE, TURNS), same(2)), True, ((), ((0,), (1,))), (((0,),), ((1,), (0,))))

    def test_an_empty_stem(self):
        self.check_ways(self.q, True, ((), ((2,),)), ((), ((2,), (2,))))
        self.check_ways(("some", 1, (TURNS, ZEROS), ANYTHING), True, ((), ((0,), (1,))))

    def test_no_empty_loop(self):
        self.check_ways(self.q, False, ((), ()), (((2,),), ()), (((0,), (1,), (1,)), ()))
        self.check_ways(("some", 0, (TURNS,), SPARSE), False, ((), ()), (((),), ()))

    def test_it_begins_with_a_start(self):
        self.check_ways(self.q, False, ((), ((1,),)), (((1,),), ((1,),)), (((1,), (1,)), ((1,), (1,))))
        self.check_ways(("some", 1, (TURNS, ZEROS), ANYTHING), False, ((), ((1,), (0,))), (((1,),), ((0,), (1,))))

    def test_each_is_followed_by_a_next(self):
        self.check_ways(self.q, False, (((0,),), ((2,),)), (((0,), (2,)), ((2,),)), (((2,),), ((1,),)))
        self.check_ways(self.q, False, (((2,), (1,)), ((1,),)), (((2,),), ((2,), (1,))))
        self.check_ways(self.q, False, (((0,), (1,), (0,), (1,)), ((1,),)))

    def test_the_loop_comes_round(self):
        q = ("some", 1, (TURNS, ZEROS), ANYTHING)
        self.check_ways(q, False, ((), ((0,),)), ((), ((0,), (1,), (0,))))
        self.check_ways(q, False, (((0,),), ((1,),)), (((0,),), ((1,), (0,), (1,))))
        self.check_ways(self.q, False, ((), ((0,), (1,))), (((0,),), ((0,), (1,))))
        self.check_ways(q, True, (((0,), (1,)), ((0,), (1,))), (((0,),), ((1,), (0,), (1,), (0,))))

    def test_the_beginning_fails(self):
        q = ("some", 1, (FREE, RISE), same(2))
        self.check_ways(q, True, (((0,),), ((1,),)), (((0,), (1,)), ((1,), (1,))))
        self.check_ways(q, False, ((), ((1,),)), (((1,),), ((1,),)), (((1,), (1,)), ((1,),)))

    def test_the_stem_fails(self):
        q = ("some", 1, (FREE, RISE), same(2))
        self.check_ways(q, False, (((0,), (0,)), ((1,),)), (((0,), (1,), (0,)), ((1,),)), (((0,), (0,), (1,)), ((1,),)))

    def test_the_loop_fails(self):
        q = ("some", 1, (FREE, RISE), same(2))
        self.check_ways(q, False, (((0,),), ((0,),)), (((0,),), ((1,), (0,))), (((0,), (1,)), ((0,), (1,))))
        # The first time round it would be good.
        self.check_ways(q, False, ((), ((0,), (1,))), ((), ((0,), (1,), (1,))), ((), ((0,), (1,), (1,), (1,), (1,))))

    def test_it_is_enough_that_one_following_run_fails(self):
        q = ("some", 1, (FREE, (2, (0, 1), RISE[2])), same(2))
        self.check_ways(q, False, (((0,),), ((1,),)), ((), ((1,),)))
        self.check_ways(("some", 1, (FREE, (2, (1,), RISE[2])), same(2)), True, ((), ((1,),)))

    def test_a_loop_that_is_gone_round_several_times(self):
        for many in (1, 2, 3, 6):
            for size in (1, 2, 3, 5, 8):
                ends, rings = [("some", 1, (DULL, wheel(size)), bells(many, last)) for last in (-1, 0)]
                with self.subTest(many=many, size=size):
                    for loop in (1, 2, 3, 4, 7, 16):
                        ways = ((), ((0,),) * loop), (((0,),) * 5, ((0,),) * loop)
                        self.check_ways(ends, False, *ways)
                        self.check_ways(rings, True, *ways)

    def test_a_crowd_that_grows_and_one_that_shrinks(self):
        # What follows comes to its last state only after several times, and may then show 1.
        slow = (2, (0,), ((0, (0, 1)), (0, (2,)), (0, (3,)), (1, (0,))))
        loops = [((), ((0,),) * many) for many in (1, 2, 3, 9)]
        self.check_ways(("some", 1, (DULL, slow), bells(1, -1)), False, *loops)
        self.check_ways(("some", 1, (DULL, slow), bells(4, -1)), False, *loops)
        self.check_ways(("some", 1, (DULL, slow), bells(4, 3)), True, *loops)
        joined = (2, (0, 1, 2), ((0, (2,)), (1, (2,)), (0, (2,))))
        self.check_ways(("some", 1, (DULL, joined), bells(2, -1)), True, *loops)
        self.check_ways(("some", 1, (DULL, joined), bells(1, -1)), False, *loops)

    def test_what_fails_once_is_not_made_good_by_what_comes_behind(self):
        # One run shows 1 at time 3 alone, another one never; both then go on to states that nothing was in before.
        once = (2, (0,), ((0, (1,)), (0, (2,)), (0, (3, 4)), (1, (5,)), (0, (5,)), (0, (6,)), (0, (6,))))
        loops = [((), ((0,),) * many) for many in (1, 2, 3, 9)] + [(((0,),) * many, ((0,),)) for many in range(6)]
        self.check_ways(("some", 1, (DULL, once), bells(1, -1)), False, *loops)
        self.check_ways(("some", 1, (DULL, once), bells(2, -1)), True, *loops)

    def test_the_loop_is_good_at_one_of_its_places_only(self):
        # The watcher stops when both show 1: every 6 times, if the wheels do not begin together.
        q = ("some", 1, (wheel(2), wheel(3)), ((2, 2), ((0, 0, 0, -1),)))
        self.check_ways(q, False, ((), ((0,), (1,))), (((0,),), ((1,), (0,))))
        q = ("some", 1, (wheel(2), wheel(4, 1)), ((2, 2), ((0, 0, 0, -1),)))
        self.check_ways(q, True, ((), ((0,), (1,))), (((0,),), ((1,), (0,))), ((), ((0,), (1,)) * 3))
        q = ("some", 1, (wheel(2), wheel(4, 2)), ((2, 2), ((0, 0, 0, -1),)))
        self.check_ways(q, False, ((), ((0,), (1,))), (((0,),), ((1,), (0,))), ((), ((0,), (1,)) * 3))

    def test_none_leads(self):
        self.check_ways(("some", 0, (TURNS,), SPARSE), True, ((), ((),)), (((),) * 3, ((),) * 2))
        self.check_ways(("some", 0, (STAIRS,), SPARSE), False, ((), ((),)), (((),) * 3, ((),) * 2))
        self.check_ways(("some", 0, (TURNS,), SPARSE), False, ((), ((0,),)), (((),), (0,)), ((0,), ((),)))

    def test_all_lead(self):
        q = ("some", 2, (STAIRS, RISE), same(2))
        self.check_ways(q, True, (((0, 0), (1, 1)), ((1, 1),)), (((0, 0),), ((1, 1),)))
        self.check_ways(q, False, (((0, 0), (0, 1)), ((1, 1),)), ((), ((0, 0),)), ((), ((2, 0),)), (((0,),), ((1,),)))

    def test_of_what_a_way_consists(self):
        wrong = ((), (0, 0), 0, None, "0", (False,), (None,), ((0,),), (3,), (-1,), (-2,), (10 ** 30,))
        good = (((2,),), ((2,),))
        for p in wrong:
            self.check_ways(self.q, False, ((p,), good[1]), (good[0], (p,)), (good[0], ((2,), p)), (((2,), p), good[1]))
        for part in (None, "", "2", 0, 2, True, False, (2,), ((((2,),),),)):
            self.check_ways(self.q, False, (part, good[1]), (good[0], part), (part, part))

    def test_400_tuples(self):
        for stem, loop in ((0, 399), (0, 400), (399, 1), (1, 399), (200, 200), (200, 199), (398, 1)):
            self.check_ways(self.q, True, (((2,),) * stem, ((2,),) * loop))
        for stem, loop in ((0, 401), (400, 1), (1, 400), (201, 200), (200, 201), (401, 0), (400, 0), (400, 400)):
            self.check_ways(self.q, False, (((2,),) * stem, ((2,),) * loop))

    def test_what_fails_after_many_rounds(self):
        # All wheels stand right for the second time only at time 399.
        for many in range(3):
            q = ("some", many, wheels(119), second_bell(-1))
            turns = [tuple((s[1][0] + time) % len(s[2]) for s in leading(q)) for time in range(280)]
            loop = tuple(turns[:next(n for n in range(1, 281) if turns[n % 280] == turns[0])])
            self.check_ways(q, False, ((), loop))
            self.check_ways(("some", many, wheels(119), second_bell(1)), True, ((), loop))


class SomeNo(Takes):
    # Three times are good, at the next one the wheel shows 1.
    q = ("some", 0, (wheel(4, 1),), ((2,), ((0, -1),)))
    rows = (((), at(3)), ((), at(2)), ((), at(1)))

    def check_rows(self, q, taken, *lots):
        self.check(q, taken, *[("no", rows) for rows in lots])

    def test_ordinary_rows(self):
        self.check_rows(self.q, True, self.rows)
        self.check_rows(("some", 1, (STAIRS, TURNS), same(2)), True, (((1,), at(1)), ((0,), at(0))))

    def test_the_order_matters(self):
        for rows in itertools.permutations(self.rows):
            self.check_rows(self.q, rows == self.rows, rows)

    def test_a_row_less(self):
        self.check_rows(self.q, False, (), *itertools.combinations(self.rows, 1), *itertools.combinations(self.rows, 2))

    def test_a_row_may_stand_twice(self):
        a, b, c = self.rows
        self.check_rows(self.q, True, (a, a, b, c), (a, b, a, c, b, c), (a, b, c, a), (a, b, c, c))
        self.check_rows(self.q, False, (b, a, b, c), (a, c, b, c), (c, a, b, c))

    def test_more_rows(self):
        more = ((), at(0))
        self.check_rows(self.q, True, (*self.rows, more))
        self.check_rows(self.q, False, (more, *self.rows), (*self.rows[:2], more, self.rows[2]))

    def test_rows_that_hold_each_other(self):
        # Nothing ever fails here, so no rows end; they must not end by themselves either.
        q = ("some", 0, (ZEROS,), ((2,), ((0, -1),)))
        self.check_rows(q, False, (((), at(0)),), (((), at(0)),) * 2, ())
        q = ("some", 1, (TURNS, TURNS), same(2))
        rows = (((0,), at(0)), ((1,), at(1)))
        self.check_rows(q, False, rows, rows[::-1], rows + rows, rows[:1], rows[1:], rows[::-1] + rows)

    def test_no_rows(self):
        self.check_rows(("some", 1, (TURNS, FREE), same(2)), True, ())
        self.check_rows(("some", 1, (STAIRS, TURNS), same(2)), False, ())
        self.check_rows(("some", 1, (ZEROS, STAIRS), NOT_LESS), True, ())
        self.check_rows(("some", 0, (FREE, ZEROS), same(2)), True, ())
        self.check_rows(("some", 2, (ZEROS, (2, (1,), FREE[2])), same(2)), True, ())
        self.check_rows(("some", 2, (TURNS, TURNS), same(2)), False, ())

    def test_a_row_for_each_start_that_does_not_fail(self):
        q = ("some", 1, ((2, (0, 1), ((0, (2,)), (0, (2,)), (1, (2,)))), TURNS), same(2))
        rows = (((2,), at(1)), ((0,), at(0)), ((1,), at(0)))
        self.check_rows(q, True, rows, (rows[0], rows[2], rows[1]))
        self.check_rows(q, False, rows[:2], rows[::2], rows[1:])

    def test_each_next_fails_or_has_a_row(self):
        # From 0 it goes to a dead end or round.
        s = (2, (0,), ((0, (1, 2)), (1, (1,)), (1, (0,))))
        q = ("some", 1, (s, TURNS), same(2))
        self.check_rows(q, False, (((1,), at(1)), ((0,), at(0))), (((1,), at(1)), ((2,), at(1)), ((0,), at(0))))
        q = ("some", 1, ((2, (0,), ((0, (1, 2)), (1, (1,)), (1, (1,)))), TURNS), same(2))
        rows = (((1,), at(1)), ((2,), at(1)), ((0,), at(0)))
        self.check_rows(q, True, rows, (rows[1], rows[0], rows[2]))
        self.check_rows(q, False, rows[::2], rows[1:], (rows[0], rows[2], rows[1]))

    def test_a_smaller_crowd_that_fails_is_enough(self):
        q = ("some", 0, (FREE,), SPARSE)
        one, zero = ((), (((1,), 1),)), ((), (((0,), 0),))
        both = ((), zero[1] + one[1])
        self.check_rows(q, True, (one,), (both,), (one, zero), (one, both), (both, one, zero), (one, zero, both))
        self.check_rows(q, False, (zero,), (zero, one), (zero, both))
        self.check_rows(q, False, (((), (((1,), 0),)),), (((), (((0,), 0), ((1,), 0))),))

    def test_a_greater_crowd_is_not_within(self):
        greater = ((), (((2,), 0), ((3,), 0)))
        self.check_rows(self.q, True, (self.rows[0], greater, *self.rows[1:]), (greater, *self.rows))
        self.check_rows(self.q, False, (self.rows[0], greater, self.rows[2]), (greater, *self.rows[1:]))

    def test_crowds_are_not_empty_and_rise(self):
        q = ("some", 0, (FREE,), SPARSE)
        both = (((0,), 0), ((1,), 1))
        self.check_rows(q, True, (((), both),))
        lots = ((), both[::-1], both[:1] * 2, both + both, both + both[:1], both + both[1:])
        self.check_rows(q, False, *[(((), crowd),) for crowd in lots], *[(((), both), ((), crowd)) for crowd in lots])

    def test_of_what_rows_consist(self):
        wrong = (((), ()), ((),), ((), at(1), 0), ((0,), at(1)), (at(1), ()), (), None, "ab", 0, (None, at(1)))
        for row in (*wrong, ((), None), ((), ((), 0))):
            self.check_rows(self.q, False, (*self.rows, row), (row, *self.rows), row)
        pairs = (((4,), 0), ((-1,), 0), ((3,), 1), ((3,), -1), ((3,), False), ((True,), 0), (3, 0), ((), 0), (3,))
        self.check_rows(self.q, False, *[(*self.rows, ((), (pair,))) for pair in pairs])

    def test_all_lead(self):
        q = ("some", 2, (TURNS, STAIRS), same(2))
        rows = (((1, 1), (((), 0),)), ((0, 0), (((), 0),)))
        self.check_rows(q, True, rows)
        self.check_rows(q, False, rows[::-1], rows[:1], rows[1:], (rows[0], ((0, 0), ())))

    def test_400_rows(self):
        for many in (399, 400, 401, 402, 500):
            self.check_rows(self.q, many <= 400, self.rows + self.rows[2:] * (many - 3))
        for many in (119, 120, 121):
            q = ("some", 0, wheels(many), second_bell(-1))
            rows = [((), ((tuple((s[1][0] + time) % len(s[2]) for s in q[2]), int(time >= many)),))
                    for time in range(many + 280)]
            self.check_rows(q, many <= 120, tuple(rows[::-1]))
            self.check_rows(q, False, tuple(rows[:0:-1]), tuple(rows[-2::-1]), tuple(rows))


class OtherPapers(Takes):
    lots = (AllYes.q, AllNo.q, SomeYes.q, SomeNo.q, ("all", 0, (TURNS, STAIRS), same(2)),
            ("some", 0, (TURNS,), SPARSE), ("some", 1, (TURNS, FREE), same(2)), ("all", 2, (TURNS, TURNS), same(2)))

    def test_papers_of_the_other_kind_and_of_the_other_answer(self):
        for q, other in itertools.product(self.lots, repeat=2):
            word, *parts = answer(other)
            if q != other:
                turned = {"yes": "no", "no": "yes"}[word]
                lots = [(word, *parts), (turned, *parts), (turned, *parts, ()), (turned, (), *parts)]
                lots.append((word, *parts, ()))
                self.check(q, False, *[paper for paper in lots if not right(q, paper)])
                if q[0] != other[0] and (q[0], word) != ("some", "no"):
                    self.assertIs(takes(q, (word, *parts)), False)

    def test_values_that_are_no_papers(self):
        for q in self.lots:
            self.check(q, False, *WRONG, *JUNK, q, "yes", "no", ("yes",), ("no",), ("yes", "no"), deep(50))
            for word in ("yes", "no"):
                # Some of these are paths of empty tuples, where none leads.
                for part in (*JUNK, *WRONG):
                    papers = [(word, part), (word, part, ()), (word, (), part), (word, (part,))]
                    papers.append((word, (part,), (part,)))
                    self.check_as_right(q, *papers)
                    if not isinstance(part, tuple):
                        self.check(q, False, *papers)
                self.check(q, False, (word, deep(49)), (word, deep(49), deep(49)), (word, (deep(48), deep(48))))

    def test_the_word(self):
        for q in self.lots:
            word, *parts = answer(q)
            for wrong in (*JUNK, *WRONG, "Yes", "NO", "no ", "all", "some", ("yes",), ("no",), 1, 0):
                if wrong != word:
                    self.check_as_right(q, (wrong, *parts))
                    if wrong not in ("yes", "no"):
                        self.check(q, False, (wrong, *parts))

    def test_the_number_of_parts(self):
        for q in self.lots:
            paper = answer(q)
            self.check(q, False, (*paper, ()), (*paper, 0), (*paper, paper[1]), (*paper, (), ()))
            self.check(q, False, paper[1:], (paper,), paper[:-1])


class TurnedPapers(Takes):
    """Papers that answer tells, with one thing turned: takes says the same as the document's words."""

    def variants(self, q, paper):
        if (q[0], paper[0]) == ("all", "no"):
            return [("no", path) for path in self.turned_tuples(q, paper[1])]
        if (q[0], paper[0]) == ("some", "yes"):
            return [("yes", stem, loop) for stem, loop in self.turned_ways(q, *paper[1:])]
        return [(paper[0], rows) for rows in self.turned_rows(q, paper[1])]

    def states(self, systems):
        return itertools.product(*[range(len(s[2])) for s in systems])

    def turned_tuples(self, q, path):
        found = [path[:-1], path[1:], path[::-1], path + path, path + path[-1:], path[:1] + path]
        for at_place, p in itertools.product(range(len(path)), self.states(leading(q))):
            found.append(path[:at_place] + (p,) + path[at_place + 1:])
        for p in self.states(leading(q)):
            found += [(p,) + path, path + (p,)]
        return found

    def turned_ways(self, q, stem, loop):
        found = [(loop, stem), (stem, loop[::-1]), (stem, loop + loop), (stem + loop, loop), (stem + loop[:1], loop)]
        found += [(stem + loop[:1], loop[1:] + loop[:1]), (stem[:-1], stem[-1:] + loop), (stem, stem + loop)]
        found.append(((), loop))
        found += [(way, loop) for way in self.turned_tuples(q, stem)]
        return found + [(stem, way) for way in self.turned_tuples(q, loop)]

    def turned_rows(self, q, rows):
        found = [rows[::-1], rows + rows, rows[1:] + rows[:1], rows[-1:] + rows[:-1], rows[::-1] + rows]
        pairs = list(itertools.product(self.states(following(q)), range(len(q[3][1]))))
        for place, (p, crowd) in enumerate(rows[:6]):
            def put(*new):
                return rows[:place] + new + rows[place + 1:]
            found += [put(), put((p, ()),), put((p, crowd), (p, crowd)), rows + ((p, crowd),), ((p, crowd),) + rows]
            found += [put((t, crowd)) for t in self.states(leading(q))]
            less = [crowd[:at_pair] + crowd[at_pair + 1:] for at_pair in range(len(crowd))]
            more = [tuple(sorted({*crowd, pair})) for pair in pairs[:30]]
            for new in (*less, *more, crowd[::-1], crowd + crowd[:1]):
                found += [put((p, new)), put((p, new), (p, crowd)), put((p, crowd), (p, new))]
        return found

    def test_each_variant(self):
        told = {}
        for q in questions(31, 14, most_states=4):
            if refusal(answer, q) is TooMuch:
                continue
            paper = answer(q)
            self.check(q, True, paper)
            for variant in self.variants(q, paper)[:400]:
                self.check_as_right(q, variant)
                kind = (q[0], paper[0], right(q, variant))
                told[kind] = told.get(kind, 0) + 1
        self.assertEqual(len(told), 8)
        self.assertGreater(min(told.values()), 100)

    def test_each_part_put_wrongly(self):
        junk = ("", "yes", -1, 99, True, None, (), (None,), ((0,), 0), deep(40))
        for q in questions(32, 4, most_states=3):
            paper = answer(q)
            if len(repr(paper)) < 600:
                self.check_as_right(q, *swapped(paper, junk))

    def test_truth_values_are_no_numbers(self):
        tried = 0
        for q in questions(33, 12):
            if refusal(answer, q) is not TooMuch:
                lots = truths(answer(q))
                tried += len(lots)
                self.assertEqual([paper for paper in lots if takes(q, paper) is not False], [])
        self.assertGreater(tried, 1000)


class GreatPapers(Takes):
    def test_400_different_rows_of_great_crowds(self):
        full = (whole(2, 8),) * 3
        w = ((2, 2, 2), ((0,) * 8,))
        pairs = [(r, 0) for r in itertools.product(range(8), repeat=3)]
        rows = tuple(((), tuple(pairs[:k] + pairs[k + 1:])) for k in range(400))
        self.assertIs(takes(("all", 0, full, w), ("yes", rows)), True)
        self.assertIs(takes(("some", 0, full, w), ("no", rows)), False)

    def test_400_rows_of_many_nexts(self):
        # Each of 64 leading tuples may follow each, and has a row for each of 6 following states.
        q = ("all", 2, (whole(1, 8), whole(1, 8), whole(1, 6)), ((1, 1, 1), ((0,),)))
        rows = tuple((p, at(r)) for p in itertools.product(range(8), repeat=2) for r in range(6))
        self.assertEqual(len(rows), 384)
        self.assertIs(takes(q, ("yes", rows)), True)
        self.assertIs(takes(q, ("yes", rows[6:])), False)
        self.assertIs(takes(q, ("yes", rows[5:])), True)

    def test_a_long_way_with_great_crowds(self):
        q = ("some", 0, (whole(4, 8),) * 3, ((4,) * 3, tuple(((k + 1) % 6,) * 64 for k in range(6))))
        self.assertIs(takes(q, ("yes", ((),) * 200, ((),) * 200)), True)
        self.assertEqual(next_tuples((), ()), [()])


class Refused(unittest.TestCase):
    def test_takes(self):
        for paper in (("yes", ()), ("no", ((0,), (1,), (0,))), None, deep(50), "yes"):
            for q, kind in REFUSED:
                if refusal(takes, q, paper) is not kind:
                    self.fail(f"takes of {q!r}: not {kind.__name__}")


class WhatIsHandedIn(unittest.TestCase):
    def test_stays_as_it_was(self):
        for q in OtherPapers.lots:
            paper = answer(q)
            before = repr((q, paper))
            takes(q, paper)
            self.assertEqual(repr((q, paper)), before)


if __name__ == "__main__":
    unittest.main()
