"""Turning: the tapes of another play in which one drawn number is moved, and the foes see the same (point 28)."""

from sortes.field import inverse
from sortes.pairs import length_on_tape
from sortes.poly import times, trimmed, value


def fitted(setup, tapes):
    """Return the tapes, each with as many numbers as m polynomials need: cut, or filled up with zeros."""
    _, _, t, m = setup
    length = m * length_on_tape(t)
    return tuple([tape[:length] + (0,) * (length - len(tape)) for tape in tapes])


def turned(setup, tapes, script, a, d):
    """Return the tapes after the turning by d for the number a."""
    p, _, t, _ = setup
    foes = script[0]
    first = a * length_on_tape(t)
    addend = _addend(p, t, foes, d)
    turner = _least_that_is_no_foe(setup, foes)
    return tuple([_added(p, tape, first, addend) if i == turner else tape
                  for i, tape in enumerate(fitted(setup, tapes), 1)])


def _least_that_is_no_foe(setup, foes):
    """Return the least party that is no foe, or None if there is none."""
    return min([i for i in range(1, setup[1] + 1) if i not in foes], default=None)


def _addend(p, t, foes, d):
    """Return the polynomial that a turning by d adds, as the numbers on a tape."""
    # It is 0 in the rows of all foes, so that they do not see it.
    f = (1,)
    for c in foes:
        f = times(p, f, trimmed(p, (-c, 1)))
    at_zero = value(p, f, 0)
    factor = d * inverse(p, at_zero * at_zero)
    padded = f + (0,) * (t + 1 - len(f))
    return [factor * padded[j] * padded[k] for j in range(t + 1) for k in range(j, t + 1)]


def _added(p, tape, first, addend):
    """Return the tape with the numbers of the addend added from the place `first` on."""
    # Numbers that are not touched stay as they are.
    after = list(tape)
    for k, number in enumerate(addend):
        if 0 <= first + k < len(after):
            after[first + k] = (after[first + k] + number) % p
    return tuple(after)
