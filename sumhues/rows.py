"""Half rows, their lots and names, and sums."""

from sumhues.checks import (
    MOST_NUMBERS,
    check_half,
    check_hues,
    check_number,
    check_rule,
    is_full_row,
    is_half_row,
    is_hue,
    is_lot,
)
from sumhues.errors import NoHue, NoLot


def is_half(hues, thing):
    """Whether the thing is a half row of so many hues."""
    check_hues(hues)
    return is_half_row(hues, thing)


def is_row(hues, thing):
    """Whether the thing is a row of so many hues."""
    check_hues(hues)
    return is_full_row(hues, thing)


def lots(hues, half):
    """The list that has for each hue the rising tuple of its numbers."""
    check_hues(hues)
    check_half(hues, half)
    return [numbers_of(half, hue) for hue in range(hues)]


def numbers_of(half, hue):
    return tuple(number for number, own in enumerate(half, start=1) if own == hue)


def half_of(hues, n, lots):
    """The half row of n numbers that has these lots."""
    check_hues(hues)
    check_number(n, 0, MOST_NUMBERS)
    check_lots(hues, n, lots)
    half = [None] * n
    for hue, lot in enumerate(lots):
        for number in lot:
            half[number - 1] = hue
    return tuple(half)


def check_lots(hues, n, lots):
    if not isinstance(lots, list) or len(lots) != hues:
        raise NoLot("lots are a list of as many tuples as there are hues")
    if not all(is_lot(n, lot) for lot in lots):
        raise NoLot(f"a lot is a rising tuple of whole numbers from 1 to {n}")
    numbers = [number for lot in lots for number in lot]
    if len(set(numbers)) != len(numbers):
        raise NoLot("no number stands in two lots")


def sums(n, rule):
    """The rising list of all sums by the rule within n."""
    check_number(n, 0, MOST_NUMBERS)
    check_rule(rule)
    apart = 0 if rule == "any" else 1
    return [(a, b, a + b) for a in range(1, n + 1) for b in range(a + apart, n - a + 1)]


def pairs_to(number, rule):
    """The rising list of the pairs (a, b) that make a sum with the number as their c."""
    return [(a, b) for a, b, c in sums(number, rule) if c == number]


def sums_with(n, rule, number):
    """The rising list of the sums within n in which the number stands."""
    found = sums(n, rule)
    check_number(number, 1, n)
    return [one for one in found if number in one]


def renamed(hues, half, order):
    """The half row in which what had the hue h has order[h]."""
    check_hues(hues)
    check_half(hues, half)
    check_order(hues, order)
    return named_by(half, order)


def check_order(hues, order):
    if not isinstance(order, tuple) or not all(is_hue(hues, hue) for hue in order):
        raise NoHue("an order is a tuple of hues")
    if sorted(order) != list(range(hues)):
        raise NoHue("an order has all hues, each once")


def named_by(half, names):
    return tuple(None if hue is None else names[hue] for hue in half)


def first_form(hues, half):
    """The half row named anew so that its hues come first as 0, 1, 2."""
    check_hues(hues)
    check_half(hues, half)
    names = {}
    for hue in half:
        if hue is not None and hue not in names:
            names[hue] = len(names)
    return named_by(half, names)
