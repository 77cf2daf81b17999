"""Answers to questions: the papers that tell them, and whether a paper is right."""

from parallax.board import Board
from parallax.errors import TooMuch
from parallax.kinds import is_tuple
from parallax.question import check_question

# A paper has at most as many rows or tuples, so an answer looks at as many pairs (p, crowd).
MOST = 400


def answer(q):
    """The right paper of the question q; TooMuch if more than 400 pairs (p, crowd) have to be looked at."""
    check_question(q)
    board = Board(q)
    if q[0] == "all":
        return _answer_all(board)
    return _answer_some(board)


def takes(q, paper):
    """Whether paper is a right paper of the question q, with at most 400 rows or tuples."""
    check_question(q)
    if not is_tuple(paper, 2, 3):
        return False
    board = Board(q)
    kind = (q[0], paper[0], len(paper))
    if kind == ("all", "yes", 2):
        return _takes_all_yes(board, paper[1])
    if kind == ("all", "no", 2):
        return _takes_all_no(board, paper[1])
    if kind == ("some", "yes", 3):
        return _takes_some_yes(board, paper[1], paper[2])
    if kind == ("some", "no", 2):
        return _takes_some_no(board, paper[1])
    return False


def _answer_all(board):
    """Goes on from pair to pair, the shorter ways ahead of the longer ones and each length in Python's order.

    So each pair is met first by the first of its shortest ways.
    """
    ways = {(p, crowd): (p,) for p, (crowd, fails) in board.first_steps()}
    pairs = list(ways)
    done = 0
    while done < len(pairs):
        p, crowd = pairs[done]
        way = ways[(p, crowd)]
        if crowd == ():
            return ("no", way)
        for t, (after, fails) in board.next_steps(p, crowd):
            if (t, after) not in ways:
                ways[(t, after)] = (*way, t)
                pairs.append((t, after))
        if len(pairs) > MOST:
            raise TooMuch()
        done += 1
    return ("yes", tuple(pairs))


def _answer_some(board):
    """Ends what comes to fail on all its ways; what is left goes on for ever."""
    firsts = _safe_pairs(board.first_steps())
    leads = _safe_leads(board, firsts)
    ended = _ended_pairs(leads)
    if len(ended) == len(leads):
        return ("no", tuple(ended))
    return _endless_paper(firsts, leads, ended)


def _safe_pairs(steps):
    """The pairs (p, crowd) of those steps at which nothing fails."""
    return [(p, crowd) for p, (crowd, fails) in steps if not fails]


def _safe_leads(board, firsts):
    """For each pair that can be come to from the first ones while nothing fails: the pairs right behind it."""
    pairs = list(firsts)
    leads = {pair: [] for pair in firsts}
    done = 0
    while done < len(pairs):
        p, crowd = pairs[done]
        behind = _safe_pairs(board.next_steps(p, crowd))
        leads[(p, crowd)] = behind
        for pair in behind:
            if pair not in leads:
                leads[pair] = []
                pairs.append(pair)
        if len(pairs) > MOST:
            raise TooMuch()
        done += 1
    return leads


def _ended_pairs(leads):
    """The pairs from which no way goes on for ever, each one after all those to which it leads."""
    sources = {pair: [] for pair in leads}
    for source, behind in leads.items():
        for pair in behind:
            sources[pair].append(source)
    waiting = {pair: len(behind) for pair, behind in leads.items()}
    ended = [pair for pair in leads if waiting[pair] == 0]
    done = 0
    while done < len(ended):
        last = ended[done]
        for pair in sources[last]:
            waiting[pair] -= 1
            if waiting[pair] == 0:
                ended.append(pair)
        done += 1
    return ended


def _endless_paper(firsts, leads, ended):
    """The paper of a way that keeps to pairs which have not ended, up to where it comes back to one."""
    over = {pair: True for pair in ended}
    way = []
    ahead = firsts
    while True:
        # There is one: what has not ended leads to such a pair, and began with one.
        pair = [after for after in ahead if after not in over][0]
        if pair in way:
            break
        way.append(pair)
        ahead = leads[pair]
    tuples = tuple([p for p, crowd in way])
    back = way.index(pair)
    return ("yes", tuples[:back], tuples[back:])


def _takes_all_yes(board, rows):
    if not _are_rows(board, rows):
        return False
    crowds = {}
    for p, crowd in rows:
        crowds.setdefault(p, []).append(crowd)
    steps = board.first_steps()
    for p, crowd in rows:
        steps.extend(board.next_steps(p, crowd))
    return all([_has_within(crowds, p, crowd) for p, (crowd, fails) in steps])


def _takes_all_no(board, path):
    if not (is_tuple(path, 0, MOST) and board.is_leading_path(path)):
        return False
    crowd, _ = board.first(path[0])
    crowd, _ = _walk(board, crowd, path[1:])
    return crowd == ()


def _takes_some_yes(board, stem, loop):
    if not (isinstance(stem, tuple) and is_tuple(loop, 1, MOST) and len(stem) + len(loop) <= MOST):
        return False
    way = (*stem, *loop, loop[0])
    if not board.is_leading_path(way):
        return False
    crowd, fails_first = board.first(way[0])
    crowd, fails = _walk(board, crowd, way[1:])
    return not (fails_first or fails or _fails_round(board, crowd, (*loop[1:], loop[0])))


def _takes_some_no(board, rows):
    if not _are_rows(board, rows):
        return False
    crowds = {}
    for p, crowd in rows:
        if not _all_end(crowds, board.next_steps(p, crowd)):
            return False
        crowds.setdefault(p, []).append(crowd)
    return _all_end(crowds, board.first_steps())


def _are_rows(board, rows):
    return is_tuple(rows, 0, MOST) and all(board.is_row(row) for row in rows)


def _has_within(crowds, p, crowd):
    """Whether one of the crowds that belong to p has all its pairs in crowd."""
    members = {pair: True for pair in crowd}
    for small in crowds.get(p, []):
        if all(pair in members for pair in small):
            return True
    return False


def _all_end(crowds, steps):
    """Whether each of the steps fails or comes to what the crowds have ended already."""
    return all([fails or _has_within(crowds, p, crowd) for p, (crowd, fails) in steps])


def _walk(board, crowd, tuples):
    """The crowd to which these tuples lead from crowd, and whether something fails on the way."""
    failed = False
    for p in tuples:
        crowd, fails = board.after(crowd, p)
        failed = failed or fails
    return crowd, failed


def _fails_round(board, crowd, tuples):
    """Whether something fails if crowd goes along these tuples again and again for ever."""
    here = {}
    fails = False
    while crowd != () and not fails:
        for pair in crowd:
            here[pair] = True
        crowd, fails = _walk(board, crowd, tuples)
        # Each pair of a crowd fares by itself: one that was here before leads to nothing new.
        crowd = tuple([pair for pair in crowd if pair not in here])
    return fails
