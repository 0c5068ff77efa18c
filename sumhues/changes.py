"""Changes of a row that make its clashes fewer."""

from sumhues.checks import check_hue, check_number, check_ruled_row
from sumhues.clashes import count_clashes
from sumhues.forced import with_hue
from sumhues.rows import sums_with


def change(hues, row, rule, number, hue):
    """How many clashes more the row has, fewer below 0, when the number has this hue."""
    check_ruled_row(hues, row, rule)
    check_number(number, 1, len(row))
    check_hue(hues, hue)
    return more_clashes(row, sums_with(len(row), rule, number), number, hue)


def more_clashes(row, beside, number, hue):
    """As change, of the sums in which the number stands: the others stay as they are."""
    return count_clashes(beside, with_hue(row, number, hue)) - count_clashes(beside, row)


def sums_beside(n, rule):
    """The dict that has for each number the sums in which it stands."""
    return {number: sums_with(n, rule, number) for number in range(1, n + 1)}


def best_change(hues, row, beside):
    """The least (more, number, hue) of all changes, so of several the least number and hue."""
    every = [(number, hue) for number in beside for hue in range(hues)]
    told = [(more_clashes(row, beside[number], number, hue), number, hue) for number, hue in every]
    # A row of no numbers has no change: it stays as it is.
    return min(told, default=(0, 0, 0))


def is_settled(hues, row, rule):
    """Whether no change makes the clashes of the row fewer."""
    check_ruled_row(hues, row, rule)
    more, number, hue = best_change(hues, row, sums_beside(len(row), rule))
    return more >= 0


def led_down(hues, row, rule):
    """The list of the rows from this one on, each by the best change of the one ahead, to a settled one."""
    check_ruled_row(hues, row, rule)
    beside = sums_beside(len(row), rule)
    rows = [row]
    more, number, hue = best_change(hues, row, beside)
    while more < 0:
        row = with_hue(row, number, hue)
        rows.append(row)
        more, number, hue = best_change(hues, row, beside)
    return rows
