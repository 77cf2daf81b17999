"""Systems that are shown by one another."""

from parallax.answer import answer
from parallax.system import check_system
from parallax.watcher import same


def shown_by(s, t):
    """The paper that tells whether s is shown by t: whether t has a run that shows the same for each run of s."""
    check_system(s)
    # Then answer refuses t if it is no system, and the question if the colours are unlike.
    return answer(("all", 1, (s, t), same(s[0])))


def equal_looks(s, t):
    """Whether s and t are each shown by the other one."""
    return shown_by(s, t)[0] == "yes" and shown_by(t, s)[0] == "yes"
