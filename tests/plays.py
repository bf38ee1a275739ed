"""Setups, tapes, scripts and boards that several tests share. Nothing here uses the program."""

from tests.plain import addresses, parties
from tests.samples import PRIMES

# A setup with one foe, and tapes on which only the dealer 1 has the polynomial 1 + 2 x + 2 y + 3 x y.
SMALL = (11, 4, 1, 1)
TAPES = ((1, 2, 3), (), (), ())
NO_FOES = ((), ())


def setup_from(stream):
    n = 1 + stream.below(7)
    # The greatest t is taken more often: with t = 0 there is nobody to break the rules.
    t = max(stream.below((n - 1) // 3 + 1), stream.below((n - 1) // 3 + 1))
    return PRIMES[stream.below(5)], n, t, 1 + stream.below(3)


def tape_length(setup):
    _, _, t, m = setup
    return m * (t + 1) * (t + 2) // 2


def tapes_from(stream, setup):
    """Tapes that end too early, that are just long enough, and that are longer than needed."""
    return tuple(stream.numbers(setup[0], stream.below(2 * tape_length(setup) + 1)) for _ in parties(setup))


def change_from(stream, setup, step):
    p = setup[0]
    kind = stream.below(4)
    if kind == 0:
        return ("is", stream.below(p))
    if kind == 1:
        return ("add", stream.below(p))
    if kind == 2:
        return ("drop",)
    # Mostly of this round or an earlier one.
    other = 1 + (stream.below(8) if stream.below(5) == 0 else stream.below(step))
    known = addresses(setup, other)
    return ("copy", known[stream.below(len(known))]) if known else ("drop",)


def script_from(stream, setup):
    _, n, t, _ = setup
    foes = tuple(sorted(stream.shuffled(parties(setup))[:max(stream.below(t + 1), stream.below(t + 1))]))
    rules = []
    for _ in range(stream.below(41)):
        step = 1 + stream.below(8)
        own = [address for address in addresses(setup, step) if address[1] in foes]
        if own:
            rules.append((own[stream.below(len(own))], change_from(stream, setup, step)))
            # Now and then a second rule for the same address.
            if stream.below(4) == 0:
                rules.append((rules[-1][0], change_from(stream, setup, step)))
    return foes, tuple(rules[:40])


def changed_board(stream, setup, board):
    """The board with some posts left out, some changed, and some put in."""
    p = setup[0]
    posts = dict(board)
    for _ in range(stream.below(9)):
        if posts and stream.below(2):
            there = sorted(posts)
            at = there[stream.below(len(there))]
        else:
            form = addresses(setup, 3 + stream.below(6))
            if not form:
                continue
            at = form[stream.below(len(form))]
        if stream.below(2):
            posts.pop(at, None)
        else:
            posts[at] = stream.below(p)
    return tuple(sorted(posts.items()))


def without(board, *left_out):
    return tuple((address, number) for address, number in board if address not in left_out)


def with_posts(board, *put_in):
    """The board with these pairs, also in place of others with their addresses."""
    posts = dict(board)
    posts.update(put_in)
    return tuple(sorted(posts.items()))


def attack_from(stream, setup, many=40):
    """A script of as many foes as there may be, with rules that are all about one foe as a dealer."""
    _, n, t, m = setup
    foes = tuple(sorted(stream.shuffled(parties(setup))[:t]))
    dealer = foes[stream.below(t)]
    about = {1: lambda at: at[1] == dealer, 2: lambda at: at[3] == dealer, 3: lambda at: at[3] == dealer,
             4: lambda at: at[1] == dealer, 5: lambda at: at[3] == dealer, 6: lambda at: at[1] == dealer,
             7: lambda at: at[3] == dealer, 8: lambda at: True}
    rules = []
    for step in (1, 1, 1) + tuple(1 + stream.below(8) for _ in range(stream.below(many - 2))):
        own = [at for at in addresses(setup, step) if at[1] in foes and about[step](at)]
        rules.append((own[stream.below(len(own))], change_from(stream, setup, step)))
    return foes, tuple(rules)
