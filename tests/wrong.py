"""What is no question, with the class that refuses it, also where several things are wrong at once."""

from parallax.errors import BadQuestion, BadSystem, BadWatcher
from tests.helper import DULL, MAZE, NOT_LESS, STAIRS, TURNS, WRONG
from tests.helper import deep, swapped, truths, whole

# Stands wrongly in the place of a number, a word or a tuple.
JUNK = ("", "0", "yes", -2, 99, 10 ** 30, True, False, None, (), (None,), (0, True), deep(45))
GOOD = ("all", 1, (TURNS, STAIRS), NOT_LESS)


def no_tuple_of_four():
    """What is no tuple of four of which the third is a tuple; all else in it may be wrong, too."""
    found = [*WRONG, *GOOD, GOOD[:3], GOOD[1:], (*GOOD, 0), (*GOOD, NOT_LESS), (GOOD,), (GOOD,) * 3]
    found += [("all", 1, wrong, NOT_LESS) for wrong in JUNK if not isinstance(wrong, tuple)]
    found += [("any", 9, wrong, None) for wrong in JUNK if not isinstance(wrong, tuple)]
    return found + [("all", 1, (None,), NOT_LESS, 0), ("all", (None,), NOT_LESS), (None,) * 4, ("all",) * 4]


def wrong_systems():
    """Tuples of systems of which at least one is none."""
    wrong = (*JUNK, *WRONG, *truths(TURNS), *swapped(TURNS, JUNK), (5, *DULL[1:]), whole(2, 9), NOT_LESS)
    found = [(s, STAIRS) for s in wrong] + [(TURNS, s) for s in wrong]
    return found + [(None,), ("",), (True,), (TURNS, STAIRS, None), (DULL, None), (TURNS,) * 9 + (deep(45),), deep(45)]


def wrong_watchers():
    states = NOT_LESS[1]
    found = [*JUNK, *WRONG, TURNS, *truths(NOT_LESS), *swapped(NOT_LESS, JUNK), ((2, 2), states * 7)]
    return found + [((2, 2, 2), states), ((5, 2), states), ((2,) * 4, ((0,) * 16,))]


def unlike_systems():
    """Tuples of systems that do not fit the counts (2, 2): their number, or the colours of one."""
    numbers = [(), (TURNS,), (TURNS, STAIRS, TURNS), (TURNS,) * 9]
    colours = [(TURNS, DULL), (DULL, STAIRS), (TURNS, MAZE), (MAZE, TURNS), (DULL, MAZE), ((3, *TURNS[1:]), TURNS)]
    return numbers + colours


def refused_questions():
    """All of these, as pairs of what is refused and its class."""
    words = (*JUNK, "no", "ALL", "All", "some ", "alls", "any", ("all",), ("all", "some"), 0, 1)
    numbers = (*JUNK, -1, 3, 4, "1", (1,), "all", 10 ** 18)
    found = [(q, BadQuestion) for q in no_tuple_of_four()]
    for systems in wrong_systems():
        for first, many, w in (("all", 1, NOT_LESS), (None, "", None), ("some", 7, NOT_LESS), ("all", 0, ())):
            found.append(((first, many, systems, w), BadSystem))
    for w in wrong_watchers():
        for first, many, systems in (("all", 1, GOOD[2]), (0, -1, GOOD[2]), ("some", True, ()), ("", 0, (DULL,))):
            found.append(((first, many, systems, w), BadWatcher))
    for systems in unlike_systems():
        for first, many in (("all", 0), ("some", 1), ("any", None)):
            found.append(((first, many, systems, NOT_LESS), BadQuestion))
    found += [((word, many, *GOOD[2:]), BadQuestion) for word in words for many in (0, 1, 9)]
    found += [((word, many, *GOOD[2:]), BadQuestion) for word in ("all", "some") for many in numbers]
    return found


REFUSED = refused_questions()
