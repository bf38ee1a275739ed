"""Lots: what they are, their sizes, and their outcomes (points 50 to 52)."""

from sortes.sizes import bases_of, measured, names_of, sets_of
from sortes.values import are_pairs, is_between, is_integer, is_tuple

MOST_ENTRIES = 12
MOST_PRIZES = 5
MOST_LOTS = 30
MOST_DEEP = 6


def is_lot(value):
    """Return whether a value is a lot."""
    # Level by level, so that no value is too deep or has too much in it to be looked at.
    level = [value]
    many = 0
    for _ in range(MOST_DEEP):
        many += len(level)
        if many > MOST_LOTS or not all([_has_form(part) for part in level]):
            return False
        level = [inner for part in level for inner in _lots_in(part)]
    return len(level) == 0


def size(e):
    """Return the size of a lot. It raises LimitError if this, or the size of a lot in it, is above 10 ** 12."""
    return measured(e).total


def unrank(e, k):
    """Return the outcome of a lot for a number k."""
    return outcome_at(measured(e), k)


def outcome_at(node, k):
    """Return the outcome of a measured lot for a number k."""
    # Beyond the limits there are lots without any outcome, and numbers that are not less than the size.
    if node.total < 1:
        return None
    k = k % node.total
    kind = node.lot[0]
    if kind == "sure":
        return node.lot[1]
    if kind == "among" or kind == "prizes":
        return _chosen_outcome(node, k)
    if kind == "both":
        places = _digits(k, [part.total for part in node.parts])
        return tuple([outcome_at(part, at) for part, at in zip(node.parts, places)])
    if kind == "set":
        return _set_at(node.lot, k)
    if kind == "seats":
        return _seats_at(node.lot, k)
    return _names_at(node.lot, k)


def _has_form(value):
    """Return whether a value has the form of a lot, whatever stands for the lots in it."""
    if is_tuple(value, 2, 2):
        return _has_short_form(value[0], value[1])
    if is_tuple(value, 3, 3):
        return is_integer(value[1]) and _has_long_form(value[0], value[1], value[2])
    return False


def _has_short_form(kind, rest):
    """Return whether this is the form of a lot without a number s."""
    if kind == "sure":
        return _is_name(rest)
    if kind == "order":
        return _are_names(rest)
    if kind == "both":
        return is_tuple(rest, 1, MOST_ENTRIES)
    if kind == "among" and are_pairs(rest, 1, MOST_ENTRIES):
        return _are_parts([weight for weight, _ in rest], 1000)
    return False


def _has_long_form(kind, s, rest):
    """Return whether this is the form of a lot with the number s."""
    if kind == "draw" or kind == "set":
        return _are_names(rest) and 0 <= s <= len(rest)
    if kind == "again":
        return _are_names(rest) and 0 <= s <= 12
    if kind == "prizes" and _are_named(rest, MOST_PRIZES):
        return all([is_between(tickets, 1, 100) for _, tickets in rest]) and 0 <= s <= len(rest)
    if kind == "seats" and _are_named(rest, MOST_ENTRIES):
        return _are_parts([votes for _, votes in rest], 100000) and 0 <= s <= 1000
    return False


def _is_name(value):
    """Return whether a value is a name."""
    return isinstance(value, str) and 1 <= len(value) <= 8 and value.isascii() and value.isalnum()


def _are_names(value):
    """Return whether a value is a tuple of one or more different names."""
    return is_tuple(value, 1, MOST_ENTRIES) and all([_is_name(x) for x in value]) and len(set(value)) == len(value)


def _are_named(value, most):
    """Return whether a value is a tuple of one or more pairs that begin with different names."""
    return are_pairs(value, 1, most) and _are_names(tuple([name for name, _ in value]))


def _are_parts(values, most):
    """Return whether the values are integers from 0 to `most`, not all 0."""
    return all([is_between(number, 0, most) for number in values]) and sum(values) > 0


def _lots_in(lot):
    """Return what stands for the lots directly in something that has the form of a lot."""
    if lot[0] == "among":
        return [inner for _, inner in lot[1]]
    if lot[0] == "both":
        return list(lot[1])
    return []


def _chosen_outcome(node, k):
    """Return the outcome of the part that the number k chooses by its weight."""
    if len(node.parts) == 0:
        # No prizes, no winners.
        return ()
    at = 0
    left = k // node.stride
    while left >= node.weights[at]:
        left -= node.weights[at]
        at += 1
    told = outcome_at(node.parts[at], k % node.stride)
    if node.lot[0] == "prizes":
        return (node.lot[2][at][0],) + told
    return told


def _digits(k, bases):
    """Return the digits of k, of which the last one changes fastest, each less than its base."""
    digits = []
    for base in reversed(bases):
        digits.append(k % base)
        k = k // base
    digits.reverse()
    return digits


def _names_at(lot, k):
    """Return the outcome number k of a lot of the kinds order, draw and again."""
    left = list(names_of(lot)[1])
    found = []
    for at in _digits(k, bases_of(lot)):
        found.append(left[at])
        if lot[0] != "again":
            left.pop(at)
    return tuple(found)


def _set_at(lot, k):
    """Return the outcome number k of a lot of the kind set."""
    s, names = names_of(lot)
    found = []
    for at, name in enumerate(names):
        # The sets that take this name stand ahead of those that leave it out.
        with_it = sets_of(len(names) - at - 1, s - len(found) - 1)
        if len(found) < s:
            if k < with_it:
                found.append(name)
            else:
                k -= with_it
    return tuple(found)


def _seats_at(lot, k):
    """Return the outcome number k of a lot of the kind seats."""
    _, s, pairs = lot
    total = sum([votes for _, votes in pairs])
    found = []
    upto = 0
    before = k // total
    for name, votes in pairs:
        upto += votes
        seats = (upto * s + k) // total
        found.append((name, seats - before))
        before = seats
    return tuple(found)
