"""Texts of lots (point 56)."""

from sortes.errors import LimitError, ParseError
from sortes.lots import MOST_DEEP, is_lot

LONGEST_TEXT = 4000
# No number in a lot has more digits.
MOST_DIGITS = 6


def print_lot(e):
    """Return the text of a lot."""
    kind = e[0]
    if kind == "among":
        return _bracketed([kind] + [_bracketed([str(weight), print_lot(inner)]) for weight, inner in e[1]])
    if kind == "both":
        return _bracketed([kind] + [print_lot(inner) for inner in e[1]])
    if kind == "sure":
        return _bracketed([kind, e[1]])
    if kind == "order":
        return _bracketed([kind] + list(e[1]))
    if kind == "prizes" or kind == "seats":
        return _bracketed([kind, str(e[1])] + [_bracketed([name, str(number)]) for name, number in e[2]])
    return _bracketed([kind, str(e[1])] + list(e[2]))


def parse_lot(text):
    """Return the lot with this text. It raises LimitError for a text that is too long, ParseError for a wrong one."""
    if len(text) > LONGEST_TEXT:
        raise LimitError("the text of a lot has more than 4000 characters")
    lot = _lot_of(_tree(_words(text)), MOST_DEEP)
    if not is_lot(lot):
        raise ParseError(0)
    return lot


def _bracketed(words):
    """Return the words in brackets."""
    return "(" + " ".join(words) + ")"


def _words(text):
    """Return the words and the brackets of a text."""
    spaced = text.replace("\n", " ").replace("(", " ( ").replace(")", " ) ")
    return [word for word in spaced.split(" ") if word != ""]


def _tree(words):
    """Return what is between the brackets as nested tuples of words, or None if brackets are left over."""
    rows = [[]]
    for word in words:
        if word == "(":
            rows.append([])
        elif word == ")":
            inside = tuple(rows.pop())
            if len(rows) == 0:
                return None
            rows[-1].append(inside)
        else:
            rows[-1].append(word)
    if len(rows) != 1 or len(rows[0]) != 1:
        return None
    return rows[0][0]


def _lot_of(tree, deep):
    """Return the lot, at most so deep, with this tree; something that is no lot if the tree is of none."""
    if not isinstance(tree, tuple) or len(tree) < 2 or deep < 1:
        return None
    kind = tree[0]
    if kind == "sure":
        return tree
    if kind == "order":
        return (kind, tree[1:])
    if kind == "both":
        return (kind, tuple([_lot_of(inner, deep - 1) for inner in tree[1:]]))
    if kind == "among":
        return (kind, tuple([_weighted(pair, deep - 1) for pair in tree[1:]]))
    if kind == "prizes" or kind == "seats":
        return (kind, _number_of(tree[1]), tuple([_counted(pair) for pair in tree[2:]]))
    return (kind, _number_of(tree[1]), tree[2:])


def _weighted(tree, deep):
    """Return the pair of a weight and a lot with this tree, or something that is none."""
    if not isinstance(tree, tuple) or len(tree) != 2:
        return None
    return (_number_of(tree[0]), _lot_of(tree[1], deep))


def _counted(tree):
    """Return the pair of a name and a number with this tree, or something that is none."""
    if not isinstance(tree, tuple) or len(tree) != 2:
        return None
    return (tree[0], _number_of(tree[1]))


def _number_of(word):
    """Return the integer with these decimal digits, or None if there is none, or none in lots."""
    if not isinstance(word, str) or len(word) > MOST_DIGITS or not (word.isascii() and word.isdigit()):
        return None
    return int(word) if word == "0" or word[0] != "0" else None
