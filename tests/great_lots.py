"""Lots with sizes at the limit and above it. Nothing here uses the program."""

from tests.plain_lots import NAMES

A = ("sure", "a")
# Sizes of exactly 10 ** 12.
GREATEST = ("again", 12, NAMES[:10])
GREATEST_BOTH = ("both", (("again", 1, NAMES[:10]),) * 12)
# Sizes above it, of each kind that can have one.
PRIZES = ("prizes", 3, (("a", 97), ("b", 89), ("c", 83), ("d", 79), ("e", 73)))
SEATS = ("both", (("seats", 1, (("a", 100000),)), ("seats", 1, (("a", 100000),)), ("seats", 1, (("a", 101),))))
TOO_GREAT = (("again", 12, NAMES[:11]), ("again", 12, NAMES), PRIZES, SEATS,
             ("both", (GREATEST, ("order", ("a", "b")))),
             ("among", ((2, GREATEST),)), ("among", ((1, A), (1, GREATEST))))
# The same within other lots, also with the weight 0.
ALL_TOO_GREAT = TOO_GREAT + tuple(
    within for great in TOO_GREAT for within in (
        ("both", (A, great)), ("among", ((1, great), (1, A))), ("among", ((1, A), (0, great))),
        ("both", (("among", ((0, ("both", (great,))), (5, A))), A))))
