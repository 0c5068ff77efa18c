"""Barred and forced hues, and the run of a half row."""

from sumhues.checks import check_ruled, is_whole, is_within
from sumhues.errors import NoNumber, NoStep
from sumhues.rows import sums


class Board:
    """What stays as it is while the numbers of a half row get hues."""

    def __init__(self, hues, n, rule):
        self.hues = hues
        self.all_sums = sums(n, rule)
        self.pairs = pairs_beside(n, self.all_sums)


def pairs_beside(n, all_sums):
    """The list that has at each number the pairs of numbers that make a sum with it."""
    pairs = [[] for place in range(n + 1)]
    for a, b, c in all_sums:
        pairs[c].append((a, b))
        if a == b:
            # The number stands twice in this sum: c alone is beside it.
            pairs[a].append((c, c))
        else:
            pairs[a].append((b, c))
            pairs[b].append((a, c))
    return pairs


def board_of(hues, half, rule):
    check_ruled(hues, half, rule)
    return Board(hues, len(half), rule)


def barred(hues, half, rule, number):
    """The rising tuple of the hues that are barred for the number."""
    board = board_of(hues, half, rule)
    if not is_bare(half, number):
        raise NoNumber("only numbers of the half row that have no hue are let")
    return barred_in(board, half, number)


def is_bare(half, number):
    return is_within(number, 1, len(half)) and half[number - 1] is None


def bare_numbers(half):
    return [number for number, hue in enumerate(half, start=1) if hue is None]


def barred_in(board, half, number):
    alike = [half[x - 1] for x, y in board.pairs[number] if half[x - 1] == half[y - 1]]
    return tuple(sorted({hue for hue in alike if hue is not None}))


def hues_left(board, half, number):
    taken = barred_in(board, half, number)
    return [hue for hue in range(board.hues) if hue not in taken]


def with_hue(half, number, hue):
    return half[:number - 1] + (hue,) + half[number:]


def is_forced(board, half, step):
    if not isinstance(step, tuple) or len(step) != 2:
        return False
    number, hue = step
    # Python takes True for 1, so the hue's kind is asked for, too.
    return is_bare(half, number) and is_whole(hue) and hues_left(board, half, number) == [hue]


def led_by(board, half, steps):
    """The half row to which the steps lead, None where they are no forced steps."""
    if not isinstance(steps, tuple):
        return None
    for step in steps:
        if not is_forced(board, half, step):
            return None
        number, hue = step
        half = with_hue(half, number, hue)
    return half


def are_steps(hues, half, rule, thing):
    """Whether the thing is a tuple of forced steps, one behind the other."""
    return led_by(board_of(hues, half, rule), half, thing) is not None


def led(hues, half, rule, steps):
    """The half row to which the forced steps lead."""
    end = led_by(board_of(hues, half, rule), half, steps)
    if end is None:
        raise NoStep("steps are a tuple of forced steps, one behind the other")
    return end


def run(hues, half, rule):
    """The tuple (half, steps, shut) of the run of the half row."""
    return run_in(board_of(hues, half, rule), half)


def run_in(board, half):
    steps = []
    while True:
        number, left = next_taken(board, half)
        if number is None or len(left) == 0:
            return half, tuple(steps), number
        steps.append((number, left[0]))
        half = with_hue(half, number, left[0])


def next_taken(board, half):
    """The least number that has no hue and at most one left, and what is left; None where there is none."""
    for number in bare_numbers(half):
        left = hues_left(board, half, number)
        if len(left) <= 1:
            return number, left
    return None, []
