"""The clean rows that fit a half row, and how far it can go."""

from sumhues.checks import check_hues, check_rule, check_ruled, check_small, is_vast
from sumhues.errors import TooMany
from sumhues.rows import pairs_to


def all_fits(hues, half, rule):
    """The rising list of all clean rows that fit the half row."""
    check_ruled(hues, half, rule)
    check_small(hues, half, rule)
    return fitting(hues, half, rule)


def fitting(hues, half, rule):
    rows = [()]
    for hue in half:
        let = list(range(hues)) if hue is None else [hue]
        rows = grown(rows, let, rule)
    return rows


def grown(rows, let, rule):
    """The clean rows that have one number more, with a hue of those let; rising where the rows are."""
    if len(rows) == 0:
        return []
    pairs = pairs_to(len(rows[0]) + 1, rule)
    return [row + (hue,) for row in rows for hue in let if stays_clean(row, hue, pairs)]


def stays_clean(row, hue, pairs):
    return not any(row[a - 1] == hue and row[b - 1] == hue for a, b in pairs)


def fits_many(hues, half, rule):
    """How many clean rows fit the half row."""
    return len(all_fits(hues, half, rule))


def first_fit(hues, half, rule):
    """The first clean row that fits the half row, None where there is none."""
    rows = all_fits(hues, half, rule)
    return rows[0] if rows else None


def may_have(hues, half, rule):
    """The tuple that has for each number the rising tuple of its hues in the clean rows that fit."""
    rows = all_fits(hues, half, rule)
    return tuple(hues_at(rows, place) for place in range(len(half)))


def hues_at(rows, place):
    return tuple(sorted({row[place] for row in rows}))


def sure(hues, half, rule):
    """The half row of those hues that all clean rows that fit have, None where none fits."""
    rows = all_fits(hues, half, rule)
    if len(rows) == 0:
        return None
    return tuple(sole(hues_at(rows, place)) for place in range(len(half)))


def sole(found):
    return found[0] if len(found) == 1 else None


def farthest(hues, rule):
    """The greatest n such that there is a clean row of n numbers."""
    return len(far_rows(hues, rule)[0])


def far_rows(hues, rule):
    """The rising list of all clean rows of as many numbers as the farthest."""
    check_hues(hues)
    check_rule(rule)
    check_far(hues, rule)
    return far_fitting(hues, (), rule)


def check_far(hues, rule):
    if is_vast(hues, rule):
        raise TooMany("how far three hues go by unlike is not gone through")


def far_fitting(hues, half, rule):
    """The clean rows of the most numbers that have all hues of the half row."""
    every = list(range(hues))
    rows = fitting(hues, half, rule)
    longer = grown(rows, every, rule)
    while longer:
        rows = longer
        longer = grown(rows, every, rule)
    return rows


def far_from(hues, half, rule):
    """The greatest n such that a clean row of n numbers has all hues of the half row, or None."""
    check_ruled(hues, half, rule)
    check_far(hues, rule)
    check_small(hues, half, rule)
    rows = far_fitting(hues, half, rule)
    return len(rows[0]) if rows else None
