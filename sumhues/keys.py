"""Keys: numbers whose hues tell a clean row from all others."""

from sumhues.checks import check_ruled_row, is_lot, is_vast
from sumhues.clashes import is_clean
from sumhues.errors import NoClean, TooMany
from sumhues.fits import fitting
from sumhues.forced import with_hue

MOST_KEYED = 8
MOST_KEYED_VAST = 6


def are_keys(hues, row, rule, thing):
    """Whether the thing is keys of the row."""
    others = other_rows(hues, row, rule)
    return is_lot(len(row), thing) and tells(row, others, thing)


def check_keyed(hues, row, rule):
    check_ruled_row(hues, row, rule)
    if not is_clean(hues, row, rule):
        raise NoClean("only clean rows have keys")
    most = MOST_KEYED_VAST if is_vast(hues, rule) else MOST_KEYED
    if len(row) > most:
        raise TooMany(f"only rows of at most {most} numbers are gone through")


def other_rows(hues, row, rule):
    """All clean rows of as many numbers but this one."""
    check_keyed(hues, row, rule)
    return [other for other in fitting(hues, (None,) * len(row), rule) if other != row]


def tells(row, others, numbers):
    return not any(is_alike(row, other, numbers) for other in others)


def is_alike(row, other, numbers):
    return all(row[number - 1] == other[number - 1] for number in numbers)


def fewest_keys(hues, row, rule):
    """The keys of the fewest numbers, of several the first one."""
    others = other_rows(hues, row, rule)
    found = [()]
    told = telling(row, others, found)
    # All numbers of the row are keys, so some are found in the end.
    while len(told) == 0:
        found = one_longer(len(row), found)
        told = telling(row, others, found)
    return told[0]


def telling(row, others, found):
    return [numbers for numbers in found if tells(row, others, numbers)]


def one_longer(n, found):
    """The rising list of the lots that have one number more, where all lots of so many are handed in rising."""
    return [lot + (number,) for lot in found for number in range(last_of(lot) + 1, n + 1)]


def last_of(lot):
    return lot[-1] if lot else 0


def changeable(hues, row, rule):
    """The rising list of the numbers whose hue alone can be otherwise in a clean row."""
    check_keyed(hues, row, rule)
    return [number for number in range(1, len(row) + 1) if can_change(hues, row, rule, number)]


def can_change(hues, row, rule, number):
    others = [hue for hue in range(hues) if hue != row[number - 1]]
    return any(is_clean(hues, with_hue(row, number, hue), rule) for hue in others)
