"""Papers by which anybody sees that no clean row fits a half row."""

from sumhues.checks import check_small, is_whole
from sumhues.clashes import is_in_one_hue
from sumhues.errors import NoPaper
from sumhues.forced import bare_numbers, board_of, hues_left, is_bare, led_by, run_in, with_hue


def is_paper(hues, half, rule, thing):
    """Whether the thing is a paper for the half row."""
    return count_ends(board_of(hues, half, rule), half, thing) > 0


def ends_many(hues, half, rule, paper):
    """How many tuples "clash" and "shut" the paper for the half row has."""
    many = count_ends(board_of(hues, half, rule), half, paper)
    if many == 0:
        raise NoPaper("this is no paper for the half row")
    return many


def count_ends(board, half, thing):
    """How many ends the paper has; 0 where the thing is none, as each paper has some."""
    if not isinstance(thing, tuple) or len(thing) != 2:
        return 0
    steps, last = thing
    end = led_by(board, half, steps)
    if end is None or not isinstance(last, tuple):
        return 0
    if is_cases(board, end, last):
        return count_case_ends(board, end, last)
    return 1 if is_clash_end(board, end, last) or is_shut_end(board, end, last) else 0


def is_clash_end(board, half, last):
    numbers = last[1:]
    if len(last) != 4 or last[0] != "clash" or not all(is_whole(number) for number in numbers):
        return False
    return numbers in board.all_sums and is_in_one_hue(half, numbers)


def is_shut_end(board, half, last):
    if len(last) != 2 or last[0] != "shut" or not is_bare(half, last[1]):
        return False
    return len(hues_left(board, half, last[1])) == 0


def is_cases(board, half, last):
    if len(last) != 3 or last[0] != "cases" or not is_bare(half, last[1]):
        return False
    return isinstance(last[2], tuple) and len(last[2]) == board.hues


def count_case_ends(board, half, last):
    word, number, papers = last
    total = 0
    for hue, paper in enumerate(papers):
        many = count_ends(board, with_hue(half, number, hue), paper)
        if many == 0:
            return 0
        total += many
    return total


def paper_for(hues, half, rule):
    """Some paper for the half row, None where some clean row fits."""
    board = board_of(hues, half, rule)
    check_small(hues, half, rule)
    return find_paper(board, half)


def find_paper(board, half):
    for numbers in board.all_sums:
        if is_in_one_hue(half, numbers):
            return (), ("clash", *numbers)
    end, steps, shut = run_in(board, half)
    if shut is not None:
        return steps, ("shut", shut)
    if None not in end:
        return None
    number = tightest(board, end)
    papers = papers_by_case(board, end, number)
    return None if papers is None else (steps, ("cases", number, papers))


def tightest(board, half):
    """The number without a hue that has the fewest hues left: so papers stay short."""
    return min(bare_numbers(half), key=lambda number: len(hues_left(board, half, number)))


def papers_by_case(board, half, number):
    papers = []
    for hue in range(board.hues):
        paper = find_paper(board, with_hue(half, number, hue))
        if paper is None:
            return None
        papers.append(paper)
    return tuple(papers)
