"""A second, slow reckoning of lots: all outcomes in order, one for each number. Nothing here uses the program."""

import itertools
import math

# The letters and digits of names.
CHARACTERS = "ABCDEFGHIJKLMNOPQRSTUVWXYZabcdefghijklmnopqrstuvwxyz0123456789"
KINDS = ("sure", "among", "both", "order", "draw", "set", "again", "prizes", "seats")
NAMES = tuple("abcdefghijkl")


def plain_all(e):
    """The outcomes of all numbers, from 0 on."""
    kind = e[0]
    if kind == "sure":
        return [e[1]]
    if kind == "among":
        return plain_among([(weight, plain_all(inner)) for weight, inner in e[1]])
    if kind == "both":
        return list(itertools.product(*[plain_all(inner) for inner in e[1]]))
    if kind == "order":
        return list(itertools.permutations(e[1]))
    s, rest = e[1:]
    if kind == "draw":
        return list(itertools.permutations(rest, s))
    if kind == "set":
        return list(itertools.combinations(rest, s))
    if kind == "again":
        return list(itertools.product(rest, repeat=s))
    return plain_prizes(s, rest) if kind == "prizes" else plain_seats(s, rest)


def plain_among(weighted):
    """All outcomes of weighted lists of outcomes, each list repeated up to the length that all have in common."""
    length = math.lcm(*[len(some) for weight, some in weighted if weight])
    found = []
    for weight, some in weighted:
        if weight:
            found.extend(some * (length // len(some)) * weight)
    return found


def plain_prizes(s, pairs):
    if s == 0:
        return [()]
    weighted = []
    for name, tickets in pairs:
        others = [pair for pair in pairs if pair[0] != name]
        weighted.append((tickets, [(name,) + rest for rest in plain_prizes(s - 1, others)]))
    return plain_among(weighted)


def plain_seats(s, pairs):
    """Each of the s seats goes to the name whose part of all votes, laid in a row, it falls on."""
    total = sum(votes for _, votes in pairs)
    ends = list(itertools.accumulate(votes for _, votes in pairs))
    found = []
    for k in range(total):
        # The seat number q stands at the votes q V - k, from 1 on, of s times all votes.
        stands = [q * total - k for q in range(1, s + 1)]
        owners = [sum(1 for end in ends if end * s < stand) for stand in stands]
        found.append(tuple((name, owners.count(at)) for at, (name, _) in enumerate(pairs)))
    return found


def plain_shares(e):
    """The pairs of an outcome and how many numbers have it, in the order of the least of these numbers."""
    found = {}
    for outcome in plain_all(e):
        found[outcome] = found.get(outcome, 0) + 1
    return list(found.items())


def plain_size(e):
    """The size, by formulas; without a limit."""
    kind = e[0]
    if kind in ("sure", "order", "draw", "set", "again"):
        n = len(e[-1])
        return {"sure": lambda: 1, "order": lambda: math.factorial(n), "draw": lambda: math.perm(n, e[1]),
                "set": lambda: math.comb(n, e[1]), "again": lambda: n ** e[1]}[kind]()
    if kind == "seats":
        return sum(votes for _, votes in e[2])
    if kind == "both":
        return math.prod(plain_size(inner) for inner in e[1])
    if kind == "among":
        return sum(w for w, _ in e[1]) * math.lcm(*[plain_size(inner) for w, inner in e[1] if w])
    if e[1] == 0:
        return 1
    inner = [("prizes", e[1] - 1, tuple(other for other in e[2] if other != pair)) for pair in e[2]]
    return sum(tickets for _, tickets in e[2]) * math.lcm(*[plain_size(lot) for lot in inner])


def some_names(stream, most):
    return stream.shuffled(NAMES)[:1 + stream.below(most)]


def some_votes(stream, names, most):
    votes = [stream.below(most) if stream.below(4) else 0 for _ in names]
    votes[stream.below(len(names))] += 1
    return tuple(zip(names, votes))


def lot_from(stream, deep=3):
    """A lot, mostly of a small size, at most so deep."""
    kind = KINDS[stream.below(len(KINDS))]
    if deep == 1 and kind in ("among", "both"):
        kind = "sure"
    names = some_names(stream, 4)
    if kind == "sure":
        return (kind, names[0])
    if kind == "order":
        return (kind, names)
    if kind == "both":
        return (kind, tuple(lot_from(stream, deep - 1) for _ in range(1 + stream.below(3))))
    if kind == "among":
        inner = [lot_from(stream, deep - 1) for _ in range(1 + stream.below(4))]
        return (kind, tuple((w, lot) for lot, w in some_votes(stream, inner, 4)))
    if kind == "prizes":
        return (kind, stream.below(len(names) + 1), tuple((name, 1 + stream.below(4)) for name in names))
    if kind == "seats":
        return (kind, stream.below(8), some_votes(stream, names, 9))
    return (kind, stream.below(len(names) + 1), names)


def small_lots(many, seed_stream, most):
    """So many lots with sizes of at most `most`."""
    found = []
    while len(found) < many:
        e = lot_from(seed_stream)
        if plain_size(e) <= most:
            found.append(e)
    return found
