"""How few clashes there can be where no row need be clean."""

from sumhues.checks import MOST_NUMBERS, check_hues, check_number, check_rule, common_divisor
from sumhues.clashes import count_clashes
from sumhues.errors import TooMany
from sumhues.rows import sums

MOST_ROWS = 1024


def fewest(hues, n, rule):
    """How few clashes a row of n numbers can have by the rule."""
    rows = fewest_rows(hues, n, rule)
    return count_clashes(sums(n, rule), rows[0])


def fewest_rows(hues, n, rule):
    """The rising list of all rows of n numbers that have so few clashes."""
    check_hues(hues)
    check_number(n, 0, MOST_NUMBERS)
    check_rule(rule)
    check_few_rows(hues, n)
    all_sums = sums(n, rule)
    rows = all_rows(hues, n)
    counts = [count_clashes(all_sums, row) for row in rows]
    least = min(counts)
    return [row for row, many in zip(rows, counts) if many == least]


def check_few_rows(hues, n):
    many = 1
    for number in range(n):
        many *= hues
    if many > MOST_ROWS:
        raise TooMany(f"at most {MOST_ROWS} rows are gone through")


def all_rows(hues, n):
    rows = [()]
    for number in range(n):
        rows = [row + (hue,) for row in rows for hue in range(hues)]
    return rows


def must_share(hues, n, rule):
    """The fewest clashes divided by how many sums there are, as a fraction; 0 where there is no sum."""
    least = fewest(hues, n, rule)
    if least == 0:
        return 0, 1
    many = len(sums(n, rule))
    divisor = common_divisor(least, many)
    return least // divisor, many // divisor
