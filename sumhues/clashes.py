"""Clashes: sums whose numbers have all one hue."""

from sumhues.checks import check_number, check_ruled
from sumhues.rows import sums


def clashes(hues, half, rule):
    """The rising list of all clashes of the half row by the rule."""
    check_ruled(hues, half, rule)
    return [one for one in sums(len(half), rule) if is_in_one_hue(half, one)]


def is_in_one_hue(half, numbers):
    a, b, c = numbers
    hue = half[a - 1]
    return hue is not None and half[b - 1] == hue and half[c - 1] == hue


def count_clashes(some_sums, half):
    """How many of the sums are clashes of the half row."""
    return len([one for one in some_sums if is_in_one_hue(half, one)])


def is_clean(hues, half, rule):
    """Whether the half row has no clash."""
    return len(clashes(hues, half, rule)) == 0


def first_clash(hues, half, rule):
    """The clash of the least c, of several that of the least a, or None."""
    return min(clashes(hues, half, rule), key=end_first, default=None)


def end_first(clash):
    a, b, c = clash
    return (c, a)


def clean_to(hues, half, rule):
    """The greatest m such that the first m things are a clean half row."""
    first = first_clash(hues, half, rule)
    if first is None:
        return len(half)
    return first[2] - 1


def clash_counts(hues, half, rule):
    """The list that has for each hue how many clashes are in it."""
    found = clashes(hues, half, rule)
    counts = [0] * hues
    for a, b, c in found:
        counts[half[a - 1]] += 1
    return counts


def clashes_with(hues, half, rule, number):
    """The rising list of the clashes in which the number stands."""
    found = clashes(hues, half, rule)
    check_number(number, 1, len(half))
    return [one for one in found if number in one]
