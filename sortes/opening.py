"""What everybody reads off a board: the dealers that are out, the drawn numbers, and blame."""

from sortes.decoding import decode
from sortes.poly import value
from sortes.posts import against, answer, by_address, complained, opened_row, unhappy


def outs(setup, board):
    """Return the dealers that are out, in ascending order."""
    return dealers_out(setup, by_address(board))


def numbers(setup, board):
    """Return the m drawn numbers, or None if nothing is drawn."""
    p, _, _, m = setup
    posts = by_address(board)
    drawn = []
    for a in range(m):
        f = _told_polynomial(setup, posts, a)
        if f is None:
            return None
        drawn.append(value(p, f, 0))
    return tuple(drawn)


def blame(setup, board):
    """Return the pairs of a party and a reason for its blame, in ascending order."""
    n = setup[1]
    posts = by_address(board)
    blamed = [(i, reason) for i in range(1, n + 1) for reason in _reasons(setup, posts, i)]
    blamed.extend([(j, "share") for j in _wrong_sharers(setup, posts)])
    return tuple(sorted(blamed))


def dealers_out(setup, posts):
    """Return the dealers that are out by these posts, in ascending order."""
    n = setup[1]
    return tuple([i for i in range(1, n + 1) if _reasons(setup, posts, i)])


def _reasons(setup, posts, i):
    """Return the reasons for which the dealer i is out."""
    reasons = []
    if _leaves_out_answer(setup, posts, i):
        reasons.append("answer")
    if _leaves_out_row(setup, posts, i):
        reasons.append("row")
    if _clashes(setup, posts, i):
        reasons.append("clash")
    if _has_many_against(setup, posts, i):
        reasons.append("many")
    return reasons


def _leaves_out_answer(setup, posts, i):
    """Return whether an answer to a complaint about the dealer i is left out."""
    _, n, _, m = setup
    for j in range(1, n + 1):
        for k in range(1, n + 1):
            if k != j and complained(posts, i, j, k):
                if None in [answer(posts, i, j, k, a) for a in range(m)]:
                    return True
    return False


def _leaves_out_row(setup, posts, i):
    """Return whether a coefficient of a row for a party that is unhappy with the dealer i is left out."""
    _, n, _, m = setup
    for j in range(1, n + 1):
        if unhappy(posts, i, j):
            if None in [opened_row(setup, posts, i, j, a) for a in range(m)]:
                return True
    return False


def _clashes(setup, posts, i):
    """Return whether the dealer i told different values of one of its polynomials for two parties."""
    _, n, _, m = setup
    for j in range(1, n + 1):
        for k in range(j + 1, n + 1):
            for a in range(m):
                told = _told_by(setup, posts, i, j, k, a) + _told_by(setup, posts, i, k, j, a)
                if len(set(told)) > 1:
                    return True
    return False


def _told_by(setup, posts, i, j, k, a):
    """Return the values at j, k that the dealer i told by an answer for this pair and by the row for j."""
    p = setup[0]
    told = []
    # An answer without a complaint, and a row for a party that is not unhappy, do not count.
    if complained(posts, i, j, k):
        number = answer(posts, i, j, k, a)
        if number is not None:
            told.append(number)
    if unhappy(posts, i, j):
        f = opened_row(setup, posts, i, j, a)
        if f is not None:
            told.append(value(p, f, k))
    return told


def _has_many_against(setup, posts, i):
    """Return whether more than t parties are unhappy with the dealer i or against it."""
    _, n, t, _ = setup
    return len([j for j in range(1, n + 1) if unhappy(posts, i, j) or against(posts, i, j)]) > t


def _told_polynomial(setup, posts, a):
    """Return the polynomial that the shares of at least n - t parties of the number a fit, or None."""
    p, n, t, _ = setup
    shares = [(j, posts[8, j, 0, a]) for j in range(1, n + 1) if (8, j, 0, a) in posts]
    errors = len(shares) - (n - t)
    if errors < 0:
        return None
    return decode(p, tuple(shares), t, errors)


def _wrong_sharers(setup, posts):
    """Return the parties that left out a share, or posted one that does not lie on the told polynomial."""
    p, n, _, m = setup
    wrong = set()
    for a in range(m):
        f = _told_polynomial(setup, posts, a)
        if f is not None:
            for j in range(1, n + 1):
                if posts.get((8, j, 0, a)) != value(p, f, j):
                    wrong.add(j)
    return sorted(wrong)
