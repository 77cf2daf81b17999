"""Systems, watchers and wrong values that several tests use."""


def deep(levels):
    """A tuple in tuples, as many levels deep as is said."""
    value = ()
    for _ in range(levels - 1):
        value = (value,)
    return value


# None of these is a system, a watcher or a part of one.
WRONG = (
    "", "0", "a text", -3, 99, 10 ** 30, True, False, None, (), (None,), ("0",), (True,), (False, True),
    (0, True), ((), ()), ((), (), ()), (None, None), (None, None, None), ("a", "b", "c"), deep(50),
    (deep(49), deep(49)), (deep(49), deep(49), deep(49)), (1, deep(49), deep(49)), (1, (0,), deep(49)),
    ((2,), deep(49)), (deep(49), ((0, 0),)),
)


def swapped(value, others):
    """Every value in which one part of value, or all of it, is one of the others."""
    found = list(others)
    if isinstance(value, tuple):
        for at, part in enumerate(value):
            found += [(*value[:at], new, *value[at + 1:]) for new in swapped(part, others)]
    return found


def truths(value):
    """Every value in which one number 0 or 1 in value is False or True."""
    if isinstance(value, tuple):
        return [(*value[:at], new, *value[at + 1:]) for at, part in enumerate(value) for new in truths(part)]
    return [bool(value)] if value in (0, 1) else []


def refusal(function, *arguments):
    """The very class of the error that the call raises; None if it raises none."""
    try:
        function(*arguments)
    except Exception as error:
        return type(error)
    return None


def first_nexts(colours, starts, degrees):
    """A system in which each state has as nexts the first states, as many as its degree says."""
    states = tuple((at % colours, tuple(range(degree))) for at, degree in enumerate(degrees))
    return (colours, starts, states)


def whole(colours, many):
    """A system with many states in which all is a start and all are nexts."""
    return first_nexts(colours, tuple(range(many)), (many,) * many)


def wheel(many, start=0):
    """A system of two colours that goes round its many states and shows 1 in state 0 alone."""
    return (2, (start % many,), tuple((int(at == 0), ((at + 1) % many,)) for at in range(many)))


def wheels(time):
    """Three systems that all show 1 at this time below 280, and each 280 times later, and at no other time."""
    return (wheel(8, -time), wheel(7, -time), wheel(5, -time))


def second_bell(to):
    """A watcher of three runs that goes on when all show 1: at first from 0 to 1, then from 1 to what is said."""
    return ((2, 2, 2), ((0,) * 7 + (1,), (1,) * 7 + (to,)))


def counter(places, many):
    """A watcher of one colour at each place that goes round its many states."""
    return ((1,) * places, tuple(((at + 1) % many,) for at in range(many)))


# One state, one colour.
DULL = (1, (0,), ((0, (0,)),))
# Shows 0 and 1 in turn, and begins with 0.
TURNS = (2, (0,), ((0, (1,)), (1, (0,))))
# Begins with either colour; 0 may stay or become 1, which stays.
STAIRS = (2, (0, 2), ((0, (0, 1)), (1, (1,)), (1, (2,))))
# Three colours on five states.
MAZE = (3, (1, 3), ((2, (0, 4)), (0, (0, 2, 3)), (1, (1,)), (0, (2, 4)), (2, (1, 2, 3, 4))))
# Four colours and eight states, each of which may follow each.
WIDE = whole(4, 8)
SYSTEMS = (DULL, TURNS, STAIRS, MAZE, WIDE)
# Shows whatever can be shown with two colours.
FREE = whole(2, 2)
# Two colours, of which it shows 0 for ever.
ZEROS = (2, (0,), ((0, (0,)),))
# Shows 0 first, then 1 for ever.
RISE = (2, (0,), ((0, (1,)), (1, (1,))))
# Two systems that show the same: one decides at time 1 whether it shows 1 from then on, the other at time 0.
LATE = (2, (0,), ((0, (1, 2)), (0, (1,)), (1, (2,))))
GUESS = (2, (0, 1), ((0, (2,)), (0, (3,)), (0, (2,)), (1, (3,))))

# One run of one colour, never refused.
CALM = ((1,), ((0,),))
# One run of two colours that never shows 1 twice in a row.
SPARSE = ((2,), ((0, 1), (0, -1)))
# Two runs: the first of two colours, the second of three, never both 0 and never (1, 2).
MIXED = ((2, 3), ((-1, 0, 0, 0, 0, -1),))
# Three runs of 2, 1 and 3 colours, with three states.
THREE = ((2, 1, 3), ((0, 1, 2, -1, 1, 0), (1, 1, 1, 2, -1, 2), (2, -1, 0, 0, 1, 2)))
# Two runs of two colours, six states in a ring, stopped by (1, 0) where the number is odd.
RING = ((2, 2), tuple(((k + 1) % 6, k, -1 if k % 2 else 0, (k + 2) % 6) for k in range(6)))
WATCHERS = (CALM, SPARSE, MIXED, THREE, RING)
# Two runs of two colours: the first is never less than the second.
NOT_LESS = ((2, 2), ((0, -1, 0, 0),))
# Two runs of two colours, whatever they show.
ANYTHING = ((2, 2), ((0,) * 4,))
