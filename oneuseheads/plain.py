"""Wholes, ascending rows and the row of names, which several files need."""

ALPHABET = "abcdefghijklmnopqrstuvwxyz"


def is_whole(value):
    """Whether value is a whole: True and False are none."""
    return isinstance(value, int) and not isinstance(value, bool)


def is_below(value, bound):
    """Whether value is a whole from 0 on, below bound."""
    return is_whole(value) and 0 <= value < bound


def ascends(row):
    """Whether in row, of wholes or of letters, each is greater than the one ahead of it."""
    return all([one < other for one, other in zip(row, row[1:])])


def name_in_row(number):
    """The name with this number, from 0 on, in the row a, b, .., z, aa, ab, .., az, ba, .."""
    name = ""
    rest = number + 1
    while rest > 0:
        rest, letter = divmod(rest - 1, len(ALPHABET))
        name = ALPHABET[letter] + name
    return name
