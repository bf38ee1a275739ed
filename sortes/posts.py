"""What the posts on a board say. Posts are a dict from addresses to numbers; other messages may be among them."""

from sortes.poly import trimmed


def by_address(board):
    """Return the posts of a board as a dict."""
    return {address: number for address, number in board}


def complained(posts, i, j, k):
    """Return whether there is a complaint about the dealer i for the pair of j and k."""
    return (3, j, 0, i, k) in posts


def answer(posts, i, j, k, a):
    """Return what the dealer i answered for the pair of j and k and the number a, or None."""
    return posts.get((4, i, 0, j, k, a))


def unhappy(posts, i, j):
    """Return whether j is unhappy with the dealer i."""
    return (5, j, 0, i) in posts


def opened_row(setup, posts, i, j, a):
    """Return the row number a that the dealer i opened for j, or None if a coefficient is left out."""
    p, _, t, _ = setup
    coefficients = [posts.get((6, i, 0, j, a, u)) for u in range(t + 1)]
    if None in coefficients:
        return None
    return trimmed(p, coefficients)


def against(posts, i, j):
    """Return whether j is against the dealer i."""
    return (7, j, 0, i) in posts
