"""What the modules share: questions and refusals of what is handed in, and common divisors."""

from sumhues.errors import NoHue, NoHues, NoNumber, NoRow, NoRule, TooMany

MOST_HUES = 3
MOST_NUMBERS = 30
MOST_SMALL = 14
MOST_SMALL_VAST = 7
RULES = ("any", "unlike")


def is_whole(thing):
    # Python takes a truth for an int; the document does not.
    return isinstance(thing, int) and not isinstance(thing, bool)


def is_within(thing, low, high):
    return is_whole(thing) and low <= thing <= high


def is_hue(hues, thing):
    return is_within(thing, 0, hues - 1)


def is_half_row(hues, thing):
    if not isinstance(thing, tuple) or len(thing) > MOST_NUMBERS:
        return False
    return all(part is None or is_hue(hues, part) for part in thing)


def is_full_row(hues, thing):
    return is_half_row(hues, thing) and None not in thing


def is_lot(n, thing):
    if not isinstance(thing, tuple):
        return False
    # The kinds go first: only whole numbers can be compared below.
    if not all(is_within(part, 1, n) for part in thing):
        return False
    return all(ahead < behind for ahead, behind in zip(thing, thing[1:]))


def common_divisor(one, other):
    """The greatest whole number that divides both, which are from 0 on and not both 0."""
    while other > 0:
        one, other = other, one % other
    return one


def check_hues(hues):
    if not is_within(hues, 1, MOST_HUES):
        raise NoHues("a number of hues is a whole number from 1 to 3")


def check_half(hues, half):
    if not is_half_row(hues, half):
        raise NoRow("a half row is a tuple of at most 30 things, each a hue or None")


def check_row(hues, row):
    if not is_full_row(hues, row):
        raise NoRow("a row is a tuple of at most 30 hues")


def check_rule(rule):
    if rule not in RULES:
        raise NoRule("a rule is one of the texts any and unlike")


def check_ruled(hues, half, rule):
    check_hues(hues)
    check_half(hues, half)
    check_rule(rule)


def check_ruled_row(hues, row, rule):
    check_hues(hues)
    check_row(hues, row)
    check_rule(rule)


def is_vast(hues, rule):
    # Clean rows of three hues by this rule go far, and there are very many of them.
    return hues == 3 and rule == "unlike"


def check_small(hues, half, rule):
    most = MOST_SMALL_VAST if is_vast(hues, rule) else MOST_SMALL
    if len(half) > most:
        raise TooMany(f"only half rows of at most {most} numbers are gone through")


def check_number(number, low, high):
    if not is_within(number, low, high):
        raise NoNumber(f"only whole numbers from {low} to {high} are let")


def check_hue(hues, hue):
    if not is_hue(hues, hue):
        raise NoHue(f"a hue is a whole number from 0 to {hues - 1}")
