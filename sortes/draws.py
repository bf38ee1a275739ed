"""Draws: plays whose drawn numbers draw a lot (points 60 to 64)."""

from sortes.dealing import board_of, play
from sortes.drawing import drawn, needed
from sortes.lots import size
from sortes.opening import numbers
from sortes.turning import fitted, turned


def fits(setup, e, attempts):
    """Return whether a lot and a number of attempts fit a setup."""
    p, _, _, m = setup
    return needed(p, e) * attempts == m and 1 <= attempts <= 4


def result(setup, e, attempts, board):
    """Return what the drawn numbers of the board draw, or None if nothing is drawn."""
    # A lot that is too great is refused whatever is on the board.
    size(e)
    found = numbers(setup, board)
    return None if found is None else drawn(setup[0], e, attempts, found)


def draw(setup, e, attempts, tapes, script):
    """Return the pair of the board and the result of a play."""
    # A lot that is too great is refused before the play.
    size(e)
    board = board_of(play(setup, tapes, script))
    return (board, result(setup, e, attempts, board))


def is_outcome(setup, e, attempts, board, told):
    """Return whether `told` is the result of the board, where something is drawn."""
    found = result(setup, e, attempts, board)
    return found is not None and told == found


def aimed(setup, tapes, script, wanted):
    """Return the tapes after the one turning after which the wanted numbers are drawn."""
    after = fitted(setup, tapes)
    found = numbers(setup, board_of(play(setup, tapes, script)))
    # There are always drawn numbers, but for scripts with more foes than there may be.
    if found is not None:
        for a, (number, goal) in enumerate(zip(found, wanted)):
            after = turned(setup, after, script, a, goal - number)
    return after
