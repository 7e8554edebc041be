"""The names and numbers that the pieces of a line write (c1, b1)."""

MOST_LETTERS = 6

# More digits than any bound has: int() refuses what has some thousands of them.
MOST_DIGITS = 9
ABOVE_ALL = 1000000000


def is_name(piece):
    """Whether a piece is a name (c1)."""
    return piece.isascii() and piece.isalpha() and piece.islower() and len(piece) <= MOST_LETTERS


def number(piece):
    """What a piece writes as a number without a zero ahead, or None; ABOVE_ALL for a longer one."""
    if not (piece.isascii() and piece.isdigit()) or (piece[0] == "0" and piece != "0"):
        return None
    if len(piece) > MOST_DIGITS:
        return ABOVE_ALL
    return int(piece)


def number_within(piece, least, most):
    """What a piece writes as a number from least to most, or None."""
    amount = number(piece)
    if amount is None or amount < least or amount > most:
        return None
    return amount
