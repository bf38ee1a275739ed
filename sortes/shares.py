"""Shares of outcomes, their ranks, and all outcomes of a lot (points 53 and 54)."""

from sortes.lots import outcome_at
from sortes.sizes import bases_of, measured, names_of, sets_of
from sortes.values import is_integer, is_tuple


def share(e, o):
    """Return the pair of the number of all k that have the outcome o, and the size."""
    node = measured(e)
    return _found(node, o)[1], node.total


def rank(e, o):
    """Return the least k that has the outcome o, or None."""
    return _found(measured(e), o)[0]


def outcomes(e, most):
    """Return the pairs of an outcome and the number of all k that have it, or None if there are more than `most`."""
    return _listed(measured(e), most)


def _found(node, o):
    """Return the least number that has the outcome o, or None, and how many numbers have it."""
    kind = node.lot[0]
    # Beyond the limits there are lots without any outcome.
    if node.total < 1:
        return None, 0
    if kind == "sure":
        return _once(0 if o == node.lot[1] else None)
    if kind == "among":
        return _found_among(node, [o] * len(node.parts))
    if kind == "prizes":
        return _found_prizes(node, o)
    if kind == "both":
        return _found_both(node, o)
    if kind == "set":
        return _once(_set_rank(node.lot, o))
    if kind == "seats":
        return _found_seats(node.lot, o)
    return _once(_names_rank(node.lot, o))


def _once(least):
    """Return what is found where each outcome has one number."""
    return (None, 0) if least is None else (least, 1)


def _found_among(node, wanted):
    """Return what is found where the number chooses a part, and each part is to have the outcome wanted of it."""
    least = None
    many = 0
    before = 0
    for weight, part, o in zip(node.weights, node.parts, wanted):
        if weight > 0:
            first, often = _found(part, o)
            if first is not None:
                # The part takes all numbers of its stride over and over, as often as they go into it.
                many += weight * (node.stride // part.total) * often
                if least is None:
                    least = before * node.stride + first
            before += weight
    return least, many


def _found_prizes(node, o):
    """Return what is found for the tuple of the winners."""
    _, s, pairs = node.lot
    if not is_tuple(o, max(0, s), max(0, s)):
        return None, 0
    if len(o) == 0:
        return 0, 1
    # Whoever is not the first winner is to have no outcome at all.
    return _found_among(node, [o[1:] if name == o[0] else None for name, _ in pairs])


def _found_both(node, o):
    """Return what is found for the tuple of the outcomes of all parts."""
    if not is_tuple(o, len(node.parts), len(node.parts)):
        return None, 0
    least = 0
    many = 1
    for part, inner in zip(node.parts, o):
        first, often = _found(part, inner)
        if first is None:
            return None, 0
        least = least * part.total + first
        many *= often
    return least, many


def _names_rank(lot, o):
    """Return the number of a tuple of names of a lot of the kinds order, draw and again, or None."""
    bases = bases_of(lot)
    if not is_tuple(o, len(bases), len(bases)):
        return None
    left = list(names_of(lot)[1])
    number = 0
    for base, name in zip(bases, o):
        if name not in left:
            return None
        number = number * base + left.index(name)
        if lot[0] != "again":
            left.remove(name)
    return number


def _set_rank(lot, o):
    """Return the number of a tuple of names of a lot of the kind set, or None."""
    s, names = names_of(lot)
    if not is_tuple(o, max(0, s), max(0, s)):
        return None
    number = 0
    taken = 0
    for at, name in enumerate(names):
        if taken < len(o):
            if o[taken] == name:
                taken += 1
            else:
                # All sets that take this name stand ahead.
                number += sets_of(len(names) - at - 1, s - taken - 1)
    return number if taken == len(o) else None


def _found_seats(lot, o):
    """Return what is found for the tuple of the pairs of a name and its seats."""
    _, s, pairs = lot
    if not is_tuple(o, len(pairs), len(pairs)):
        return None, 0
    total = sum([votes for _, votes in pairs])
    low = 0
    high = total
    upto = 0
    seats = 0
    for (name, votes), pair in zip(pairs, o):
        if not is_tuple(pair, 2, 2) or pair[0] != name or not is_integer(pair[1]):
            return None, 0
        upto += votes
        seats += pair[1]
        # The names up to this one have so many seats just for the numbers k from here to there.
        low = max(low, seats * total - upto * s)
        high = min(high, (seats + 1) * total - upto * s)
    return (low, high - low) if low < high else (None, 0)


def _listed(node, most):
    """Return the outcomes of a measured lot with their numbers, in ascending order of ranks, or None."""
    kind = node.lot[0]
    if node.total < 1:
        rows = []
    elif kind == "among":
        rows = _listed_among(node, most)
    elif kind == "prizes":
        rows = _listed_prizes(node, most)
    elif kind == "both":
        rows = _listed_both(node, most)
    elif kind == "seats":
        rows = _listed_seats(node)
    else:
        # Each number has another outcome.
        rows = None if node.total > most else [(outcome_at(node, k), 1) for k in range(node.total)]
    return None if rows is None or len(rows) > most else rows


def _listed_among(node, most):
    """Return the outcomes of a lot of the kind among, or None if there are too many."""
    found = []
    places = {}
    for weight, part in zip(node.weights, node.parts):
        if weight > 0:
            rows = _listed(part, most)
            if rows is None:
                return None
            often = weight * (node.stride // part.total)
            for outcome, many in rows:
                # Texts are shorter keys than outcomes, which may be deep.
                at = places.setdefault(repr(outcome), len(found))
                if at == len(found):
                    found.append((outcome, 0))
                found[at] = (outcome, found[at][1] + often * many)
            if len(found) > most:
                return None
    return found


def _listed_prizes(node, most):
    """Return the outcomes of a lot of prizes, or None if there are too many."""
    if len(node.parts) == 0:
        return [((), 1)]
    found = []
    for (name, tickets), part in zip(node.lot[2], node.parts):
        if tickets > 0:
            rows = _listed(part, most)
            if rows is None or len(found) + len(rows) > most:
                return None
            often = tickets * (node.stride // part.total)
            found.extend([((name,) + rest, often * many) for rest, many in rows])
    return found


def _listed_both(node, most):
    """Return the outcomes of a lot of the kind both, or None if there are too many."""
    found = [((), 1)]
    for part in node.parts:
        rows = _listed(part, most)
        if rows is None or len(found) * len(rows) > most:
            return None
        found = [(head + (outcome,), many * often) for head, many in found for outcome, often in rows]
    return found


def _listed_seats(node):
    """Return the outcomes of a lot of seats."""
    _, s, pairs = node.lot
    starts = [0]
    upto = 0
    for _, votes in pairs:
        upto += votes
        # From this number on, the names up to this one have one seat more.
        starts.append((-upto * s) % node.total)
    starts = sorted(set(starts))
    ends = starts[1:] + [node.total]
    return [(outcome_at(node, start), end - start) for start, end in zip(starts, ends)]
