"""The messages that the rules of a play make in each round (point 21), as lists of pairs (address, number).

`dealt` has the polynomial number a of the tape of the dealer i under the key (i, a), `held` the row that j holds
for it under the key (i, j, a). `messages` are a dict from addresses to numbers.
"""

from sortes.opening import dealers_out
from sortes.pairs import from_tape, length_on_tape, row, value_at
from sortes.poly import trimmed, value
from sortes.posts import answer, complained, opened_row, unhappy


def polynomials(setup, tapes):
    """Return what is dealt: the polynomials that the dealers read off their tapes."""
    p, n, t, m = setup
    length = length_on_tape(t)
    return {(i, a): from_tape(p, t, tapes[i - 1][a * length:]) for i in range(1, n + 1) for a in range(m)}


def rows_sent(setup, dealt):
    """Round 1: each dealer sends each other party the coefficients of its rows."""
    n = setup[1]
    made = []
    for i in range(1, n + 1):
        for j in range(1, n + 1):
            if j != i:
                made.extend(_coefficients(setup, dealt, i, j, (1, i, j)))
    return made


def rows_held(setup, dealt, messages):
    """Return what is held behind round 1: each party keeps its own row, and holds 0 for what it does not get."""
    p, n, t, m = setup
    held = {}
    for i in range(1, n + 1):
        for j in range(1, n + 1):
            for a in range(m):
                if j == i:
                    held[i, j, a] = row(p, dealt[i, a], i)
                else:
                    held[i, j, a] = trimmed(p, [messages.get((1, i, j, a, u), 0) for u in range(t + 1)])
    return held


def crossings(setup, held):
    """Round 2: each party sends each other party k the values of its rows at k."""
    p, n, _, m = setup
    return [((2, j, k, i, a), value(p, held[i, j, a], k))
            for j in range(1, n + 1) for k in range(1, n + 1) if k != j
            for i in range(1, n + 1) for a in range(m)]


def complaints(setup, held, messages):
    """Round 3: a party complains if a crossing is left out or does not fit its own row."""
    n = setup[1]
    return [((3, j, 0, i, k), 1)
            for j in range(1, n + 1) for i in range(1, n + 1) for k in range(1, n + 1)
            if k != j and _crossing_fails(setup, held, messages, i, j, k)]


def answers(setup, dealt, messages):
    """Round 4: a dealer answers each complaint about it with the values of its polynomials."""
    p, n, _, m = setup
    return [((4, i, 0, j, k, a), value_at(p, dealt[i, a], j, k))
            for i in range(1, n + 1) for j in range(1, n + 1) for k in range(1, n + 1)
            if k != j and complained(messages, i, j, k)
            for a in range(m)]


def unhappy_parties(setup, held, messages):
    """Round 5: a party is unhappy if an answer that is about it is left out or does not fit its own row."""
    n = setup[1]
    return [((5, j, 0, i), 1) for j in range(1, n + 1) for i in range(1, n + 1)
            if _answer_fails(setup, held, messages, i, j)]


def rows_opened(setup, dealt, messages):
    """Round 6: a dealer opens its rows for each party that is unhappy with it."""
    n = setup[1]
    made = []
    for i in range(1, n + 1):
        for j in range(1, n + 1):
            if unhappy(messages, i, j):
                made.extend(_coefficients(setup, dealt, i, j, (6, i, 0, j)))
    return made


def parties_against(setup, held, messages):
    """Round 7: a party that is not unhappy is against a dealer whose opened rows do not fit its own row."""
    n = setup[1]
    return [((7, j, 0, i), 1) for j in range(1, n + 1) for i in range(1, n + 1)
            if not unhappy(messages, i, j) and _opened_row_fails(setup, held, messages, i, j)]


def shares(setup, held, messages):
    """Round 8: each party posts, for each number, the sum of its rows of the dealers that are not out, at 0."""
    p, n, _, m = setup
    out = dealers_out(setup, messages)
    made = []
    for j in range(1, n + 1):
        for a in range(m):
            parts = [value(p, _row_used(setup, held, messages, i, j, a), 0)
                     for i in range(1, n + 1) if i not in out]
            made.append(((8, j, 0, a), sum(parts) % p))
    return made


def _coefficients(setup, dealt, i, j, head):
    """Return messages with all coefficients of the rows of the dealer i for j; their addresses begin with head."""
    p, _, t, m = setup
    made = []
    for a in range(m):
        f = row(p, dealt[i, a], j)
        for u in range(t + 1):
            made.append((head + (a, u), f[u] if u < len(f) else 0))
    return made


def _crossing_fails(setup, held, messages, i, j, k):
    """Return whether a crossing that j got from k for the dealer i does not fit the row of j."""
    p, _, _, m = setup
    for a in range(m):
        if messages.get((2, k, j, i, a)) != value(p, held[i, j, a], k):
            return True
    return False


def _answer_fails(setup, held, messages, i, j):
    """Return whether an answer of the dealer i for a pair in which j is does not fit the row of j."""
    p, n, _, m = setup
    for k in range(1, n + 1):
        if k != j:
            own = [value(p, held[i, j, a], k) for a in range(m)]
            for first, second in ((j, k), (k, j)):
                if complained(messages, i, first, second):
                    if [answer(messages, i, first, second, a) for a in range(m)] != own:
                        return True
    return False


def _opened_row_fails(setup, held, messages, i, j):
    """Return whether a row that the dealer i opened for another party does not fit the row of j."""
    p, n, _, m = setup
    for k in range(1, n + 1):
        if k != j and unhappy(messages, i, k):
            for a in range(m):
                f = opened_row(setup, messages, i, k, a)
                if f is None or value(p, f, j) != value(p, held[i, j, a], k):
                    return True
    return False


def _row_used(setup, held, messages, i, j, a):
    """Return the row of the dealer i, which is not out, that j uses for its share of the number a."""
    # A dealer that is not out opened all coefficients for each party that is unhappy with it.
    return opened_row(setup, messages, i, j, a) if unhappy(messages, i, j) else held[i, j, a]
