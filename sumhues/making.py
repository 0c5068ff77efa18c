"""Rows made of others: laid together, read from the end on, led round and spread."""

from sumhues.checks import (
    MOST_HUES,
    MOST_NUMBERS,
    check_hues,
    check_number,
    check_row,
    check_ruled_row,
    common_divisor,
)
from sumhues.clashes import is_in_one_hue
from sumhues.errors import NoNumber, TooMany


def laid(one, row, other, more):
    """The row of both rows laid together: the row of the one's hues, and more of the other's."""
    check_row_of(one, row)
    check_row_of(other, more)
    many = len(row) + len(more) * width_of(row)
    if one + other > MOST_HUES or many > MOST_NUMBERS:
        raise TooMany("rows laid together have at most 3 hues and 30 numbers")
    return tuple(hue_laid(one, row, more, x) for x in range(1, many + 1))


def check_row_of(hues, row):
    check_hues(hues)
    check_row(hues, row)


def width_of(row):
    return 2 * len(row) + 1


def hue_laid(one, row, more, x):
    width = width_of(row)
    rest = x % width
    if 1 <= rest <= len(row):
        return row[rest - 1]
    # Rounded up: the least q such that q times the width is no less than x.
    q = (x + width - 1) // width
    return one + more[q - 1]


def is_mirrored(hues, row):
    """Whether the row reads the same from its end on."""
    return mirrored(hues, row) == row


def mirrored(hues, row):
    """The row read from its end on."""
    check_row_of(hues, row)
    return row[::-1]


def round_clashes(hues, row, rule):
    """The rising list of all round clashes of the row by the rule."""
    check_ruled_row(hues, row, rule)
    return [one for one in round_sums(len(row), rule) if is_in_one_hue(row, one)]


def round_sums(n, rule):
    """The rising list of the sums of two numbers up to n, less n and 1 where they come to more than n."""
    apart = 0 if rule == "any" else 1
    pairs = [(a, b) for a in range(1, n + 1) for b in range(a + apart, n + 1)]
    # What comes to just n and 1 is no number of the row then.
    return [(a, b, (a + b) % (n + 1)) for a, b in pairs if a + b != n + 1]


def is_round(hues, row, rule):
    """Whether the row has no round clash."""
    return len(round_clashes(hues, row, rule)) == 0


def led_round(hues, row, by):
    """The row in which each number x has what the row has at x times by, round n and 1."""
    check_row_of(hues, row)
    check_number(by, 1, len(row))
    turn = len(row) + 1
    if common_divisor(by, turn) > 1:
        raise NoNumber(f"only numbers that have no common divisor above 1 with {turn} are let")
    return tuple(row[x * by % turn - 1] for x in range(1, turn))


def spread(hues, row, times):
    """The half row that has the row so many times and once more, a number without a hue between two."""
    check_row_of(hues, row)
    check_number(times, 0, MOST_NUMBERS - 1)
    many = times * (len(row) + 1) + len(row)
    if many > MOST_NUMBERS:
        raise TooMany("a row is spread to at most 30 numbers")
    return (row + (None,)) * times + row
