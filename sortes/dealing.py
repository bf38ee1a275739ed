"""A play: its messages, its board, and what parties see of it."""

from sortes.foes import after_rules
from sortes.rounds import answers, complaints, crossings, parties_against, polynomials, rows_held, rows_opened
from sortes.rounds import rows_sent, shares, unhappy_parties


def play(setup, tapes, script):
    """Return the messages of a play, in ascending order of addresses."""
    dealt = polynomials(setup, tapes)
    said = _spoken(setup, script, {}, 1, rows_sent(setup, dealt))
    held = rows_held(setup, dealt, said)
    said = _spoken(setup, script, said, 2, crossings(setup, held))
    said = _spoken(setup, script, said, 3, complaints(setup, held, said))
    said = _spoken(setup, script, said, 4, answers(setup, dealt, said))
    said = _spoken(setup, script, said, 5, unhappy_parties(setup, held, said))
    said = _spoken(setup, script, said, 6, rows_opened(setup, dealt, said))
    said = _spoken(setup, script, said, 7, parties_against(setup, held, said))
    said = _spoken(setup, script, said, 8, shares(setup, held, said))
    return tuple(sorted(said.items()))


def board_of(messages):
    """Return the board: the posts among the messages."""
    return tuple([(address, number) for address, number in messages if address[2] == 0])


def seen(messages, parties, last):
    """Return what the parties see up to the round `last`."""
    return tuple([(address, number) for address, number in messages
                  if address[0] <= last and _is_seen(address, parties)])


def _is_seen(address, parties):
    """Return whether one of the parties sees a message with this address."""
    return address[1] in parties or address[2] in parties or address[2] == 0


def _spoken(setup, script, earlier, step, made):
    """Return all messages up to the round `step`, in which the rules of the play made the messages `made`."""
    messages = {address: earlier[address] for address in earlier}
    for address, number in made:
        messages[address] = number
    return after_rules(setup[0], script, messages, step)
