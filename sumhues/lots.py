"""Lots of numbers without a sum, and how few hues are needed."""

from sumhues.checks import MOST_HUES, MOST_SMALL, check_number, check_rule, check_small, is_lot
from sumhues.fits import fitting
from sumhues.rows import pairs_to, sums


def check_small_n(n, rule):
    check_number(n, 0, MOST_SMALL)
    check_rule(rule)


def is_free(n, rule, thing):
    """Whether the thing is a free lot of n numbers by the rule."""
    check_small_n(n, rule)
    return is_lot(n, thing) and not any(has_all(thing, one) for one in sums(n, rule))


def has_all(lot, numbers):
    return all(number in lot for number in numbers)


def free_many(n, rule):
    """How many free lots of n numbers there are."""
    return len(free_lots(n, rule))


def free_lots(n, rule):
    """The rising list of all free lots of n numbers."""
    check_small_n(n, rule)
    found = [()]
    for number in range(1, n + 1):
        found = found + with_next(found, number, rule)
    return sorted(found)


def with_next(found, number, rule):
    """Those of the free lots that are free with the number, too, which is greater than theirs."""
    pairs = pairs_to(number, rule)
    return [lot + (number,) for lot in found if not any(has_all(lot, pair) for pair in pairs)]


def most_free(n, rule):
    """The rising list of the free lots that have the most numbers."""
    found = free_lots(n, rule)
    most = max([len(lot) for lot in found])
    return [lot for lot in found if len(lot) == most]


def full_free(n, rule):
    """The rising list of the free lots to which no number can be put."""
    found = free_lots(n, rule)
    known = {lot: True for lot in found}
    return [lot for lot in found if is_full(n, lot, known)]


def is_full(n, lot, known):
    others = [number for number in range(1, n + 1) if number not in lot]
    return not any(tuple(sorted(lot + (number,))) in known for number in others)


def hues_needed(n, rule):
    """The least number of hues by which there is a clean row of n numbers, None where there is none."""
    check_small_n(n, rule)
    bare = (None,) * n
    for hues in range(1, MOST_HUES + 1):
        # Asked only where fewer hues are too few: three by unlike may be refused.
        check_small(hues, bare, rule)
        if fitting(hues, bare, rule):
            return hues
    return None
