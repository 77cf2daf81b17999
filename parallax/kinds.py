"""Tells the kind of what is handed in, which may be anything."""


def is_number(x, low, high):
    """Whether x is a whole number from low to high; True and False are none."""
    return isinstance(x, int) and not isinstance(x, bool) and low <= x <= high


def is_tuple(x, low, high):
    """Whether x is a tuple of low to high items."""
    return isinstance(x, tuple) and low <= len(x) <= high


def are_numbers(xs, low, high):
    """Whether xs is a tuple, perhaps empty, of whole numbers from low to high."""
    return isinstance(xs, tuple) and all(is_number(x, low, high) for x in xs)


def is_rising(xs):
    """Whether xs rises strictly, for a tuple of values that Python orders."""
    return all([low < high for low, high in zip(xs, xs[1:])])
