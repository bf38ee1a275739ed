"""The form of addresses (point 20)."""

from sortes.values import is_between, is_tuple

# What stands behind the round in the addresses of each round.
FORMS = {
    1: ("party", "party", "index", "place"),
    2: ("party", "party", "party", "index"),
    3: ("party", "board", "party", "party"),
    4: ("party", "board", "party", "party", "index"),
    5: ("party", "board", "party"),
    6: ("party", "board", "party", "index", "place"),
    7: ("party", "board", "party"),
    8: ("party", "board", "index"),
}
# Where in the addresses of a round the two parties stand that are different.
DIFFERENT = {1: (1, 2), 2: (1, 2), 3: (1, 4), 4: (3, 4)}


def is_address(setup, value):
    """Return whether a value is an address of a message in plays with this setup."""
    if not is_tuple(value, 4, 6) or not is_between(value[0], 1, 8):
        return False
    form = FORMS[value[0]]
    if len(value) != len(form) + 1:
        return False
    if not all([_is_part(setup, word, part) for word, part in zip(form, value[1:])]):
        return False
    if value[0] not in DIFFERENT:
        return True
    first, second = DIFFERENT[value[0]]
    return value[first] != value[second]


def _is_part(setup, word, part):
    """Return whether a part of an address is what the word says."""
    _, n, t, m = setup
    if word == "party":
        return is_between(part, 1, n)
    if word == "board":
        return is_between(part, 0, 0)
    if word == "index":
        return is_between(part, 0, m - 1)
    return is_between(part, 0, t)
