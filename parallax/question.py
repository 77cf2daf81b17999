"""Questions, their leading tuples and their crowds."""

from parallax.board import Board
from parallax.errors import BadQuestion
from parallax.kinds import is_number, is_tuple
from parallax.system import check_system
from parallax.watcher import check_watcher


def check_question(q):
    """Raise BadSystem, BadWatcher or BadQuestion unless q is a question."""
    if not (is_tuple(q, 4, 4) and isinstance(q[2], tuple)):
        raise BadQuestion()
    first, many, systems, watcher = q
    for s in systems:
        check_system(s)
    check_watcher(watcher)
    fits = [s[0] for s in systems] == list(watcher[0])
    if not (first in ("all", "some") and is_number(many, 0, len(systems)) and fits):
        raise BadQuestion()


def starts(q):
    """The rising list of the leading start tuples."""
    check_question(q)
    return Board(q).starts()


def nexts(q, p):
    """The rising list of the nexts of the leading tuple p."""
    check_question(q)
    return Board(q).nexts(p)


def first_crowd(q, p):
    """The first crowd of the leading start tuple p."""
    check_question(q)
    crowd, _ = Board(q).first(p)
    return crowd


def next_crowd(q, crowd, p):
    """The next crowd of crowd for the leading tuple p."""
    check_question(q)
    after, _ = Board(q).after(crowd, p)
    return after


def fails_first(q, p):
    """Whether the beginning fails for the leading start tuple p."""
    check_question(q)
    _, fails = Board(q).first(p)
    return fails


def fails_next(q, crowd, p):
    """Whether crowd fails for the leading tuple p."""
    check_question(q)
    _, fails = Board(q).after(crowd, p)
    return fails
