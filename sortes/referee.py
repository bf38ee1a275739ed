"""What everybody can check: the drawn numbers that somebody tells, and the form of scripts."""

from sortes.addresses import is_address
from sortes.opening import numbers
from sortes.values import are_pairs, is_between, is_tuple

MOST_RULES = 40


def is_drawn(setup, board, told):
    """Return whether `told` is the tuple of the drawn numbers of the board."""
    found = numbers(setup, board)
    return found is not None and told == found


def is_script(setup, value):
    """Return whether a value is a script for plays with this setup (point 23)."""
    if not is_tuple(value, 2, 2):
        return False
    foes, rules = value
    if not _are_foes(setup, foes) or not are_pairs(rules, 0, MOST_RULES):
        return False
    return all([_is_rule(setup, foes, address, change) for address, change in rules])


def _are_foes(setup, value):
    """Return whether a value is a tuple of at most t different parties in ascending order."""
    _, n, t, _ = setup
    if not is_tuple(value, 0, t) or not all([is_between(party, 1, n) for party in value]):
        return False
    return all([value[at] < value[at + 1] for at in range(len(value) - 1)])


def _is_rule(setup, foes, address, change):
    """Return whether an address and a change are a rule for one of the foes."""
    return is_address(setup, address) and address[1] in foes and _is_change(setup, change)


def _is_change(setup, value):
    """Return whether a value is a change of a message."""
    if is_tuple(value, 1, 1):
        return value[0] == "drop"
    if not is_tuple(value, 2, 2):
        return False
    word, told = value
    if word == "copy":
        return is_address(setup, told)
    return (word == "is" or word == "add") and is_between(told, 0, setup[0] - 1)
