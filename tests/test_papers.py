import inspect
import unittest

from sumhues import papers as module
from sumhues.errors import NoHues, NoPaper, NoRow, NoRule, TooMany
from sumhues.papers import ends_many, is_paper, paper_for
from tests.helper import (
    ODD, RULES, Case, bare, brute_barred, brute_clashes, brute_fits, brute_is_forced, deep, halves, having, most_small,
)

# Two hues by `any`: no clean row fits.
OPEN = (0, None, None, None, None)
BY_RUN = (((2, 1), (4, 0), (3, 1)), ("shut", 5))
OTHER_ORDER = (((2, 1), (4, 0), (5, 1)), ("shut", 3))
CASES_BEHIND = (((2, 1), (4, 0)), ("cases", 5, (((), ("clash", 1, 4, 5)), ((), ("shut", 3)))))
STEPS_WITHIN = ((), ("cases", 3, (
    (((2, 1),), ("shut", 4)),
    (((2, 1), (4, 0)), ("shut", 5)),
)))
# As the one ahead, but 4 is given a hue though all are barred for it.
STEP_ON_SHUT = ((), ("cases", 3, (
    (((2, 1), (4, 1)), ("clash", 2, 2, 4)),
    (((2, 1), (4, 0)), ("shut", 5)),
)))
FOUR_FIRST = ((), ("cases", 4, (
    (((2, 1), (5, 1)), ("shut", 3)),
    ((), ("shut", 2)),
)))
BY_CASES = ((), ("cases", 2, (
    ((), ("clash", 1, 1, 2)),
    ((), ("cases", 4, (
        ((), ("cases", 3, (
            ((), ("clash", 1, 3, 4)),
            ((), ("cases", 5, (((), ("clash", 1, 4, 5)), ((), ("clash", 2, 3, 5))))),
        ))),
        ((), ("clash", 2, 2, 4)),
    ))),
)))
# Three hues by `any`.
OPEN_OF_THREE = (0, None, 2, None, None, None, None, None, None, 0, 1)
OF_THREE = ((), ("cases", 2, (
    ((), ("clash", 1, 1, 2)),
    (((9, 2),), ("cases", 4, (
        (((6, 1), (5, 2)), ("shut", 8)),
        ((), ("clash", 2, 2, 4)),
        (((5, 1), (6, 0)), ("shut", 7)),
    ))),
    (((5, 1), (6, 0), (4, 1), (7, 2)), ("shut", 9)),
)))
PAPERS = (BY_RUN, OTHER_ORDER, CASES_BEHIND, STEPS_WITHIN, FOUR_FIRST, BY_CASES)


def whole(thing):
    return type(thing) is int


def brute_ends(hues, half, rule, thing):
    """How many ends the paper has, None where it is none: point 41, word for word."""
    if type(thing) is not tuple or len(thing) != 2 or type(thing[0]) is not tuple or type(thing[1]) is not tuple:
        return None
    for step in thing[0]:
        if type(step) is not tuple or [whole(part) for part in step] != [True, True]:
            return None
        if not brute_is_forced(hues, half, rule, *step):
            return None
        half = having(half, *step)
    return brute_last(hues, half, rule, thing[1])


def brute_last(hues, half, rule, last):
    if len(last) == 4 and last[0] == "clash" and all(whole(part) for part in last[1:]):
        return 1 if last[1:] in brute_clashes(half, rule) else None
    if len(last) < 2 or not whole(last[1]) or last[1] not in bare(half):
        return None
    if len(last) == 2 and last[0] == "shut":
        return 1 if brute_barred(hues, half, rule, last[1]) == tuple(range(hues)) else None
    if len(last) != 3 or last[0] != "cases":
        return None
    if type(last[2]) is not tuple or len(last[2]) != hues:
        return None
    ends = [brute_ends(hues, having(half, last[1], hue), rule, last[2][hue]) for hue in range(hues)]
    return None if None in ends else sum(ends)


def otherwise(thing):
    """The thing with one part of it changed, at each place in many ways."""
    yield from (None, (), [], {}, "", True, deep(9), (thing,), (thing, thing))
    if type(thing) is int:
        yield from (thing + 1, thing - 1, -thing, str(thing), thing == 1, 31)
    elif type(thing) is str:
        yield from ("clash", "shut", "cases", "Clash", thing + " ", thing[1:], thing.encode())
    elif type(thing) is tuple:
        yield from (list(thing), thing[:-1], thing[1:], thing[::-1], thing * 2, thing + (0,), thing + ((),))
        for at, part in enumerate(thing):
            for other in otherwise(part):
                yield thing[:at] + (other,) + thing[at + 1:]


class Interface(unittest.TestCase):

    def test_arguments_stand_as_listed(self):
        listed = {
            "is_paper": ["hues", "half", "rule", "thing"], "paper_for": ["hues", "half", "rule"],
            "ends_many": ["hues", "half", "rule", "paper"],
        }
        for name, due in listed.items():
            with self.subTest(name=name):
                self.assertEqual(list(inspect.signature(getattr(module, name)).parameters), due)


class Papers(Case):
    """Points 41 and 42: whether anything is a paper, and how many ends it has."""

    def test_made_by_hand(self):
        for paper, many in zip(PAPERS, (1, 1, 2, 2, 2, 5), strict=True):
            self.assertIs(self.asked(is_paper, 2, OPEN, "any", paper), True)
            self.same(self.asked(ends_many, 2, OPEN, "any", paper), many)
            self.same(brute_ends(2, OPEN, "any", paper), many)
        self.check_none(2, OPEN, "any", STEP_ON_SHUT)

    def test_for_another_half_row_or_rule_or_number_of_hues(self):
        for paper in PAPERS:
            self.check_none(2, OPEN, "unlike", paper)
            self.check_none(3, OPEN, "any", paper)
            self.check_none(1, OPEN, "any", paper)
            for half in ((), OPEN[:4], (1, None, None, None, None), (0, 1, 1, 0), (0, None, 0, None, None)):
                self.check_as_due(2, half, "any", paper)
        self.check_none(2, OPEN[:4], "any", BY_RUN)
        self.check_none(2, (1,) + OPEN[1:], "any", BY_RUN)

    def check_none(self, hues, half, rule, thing):
        self.assertIs(self.asked(is_paper, hues, half, rule, thing), False, repr(thing)[:200])
        self.refused(NoPaper, ends_many, hues, half, rule, thing)

    def check_as_due(self, hues, half, rule, thing):
        due = brute_ends(hues, half, rule, thing)
        if due is None:
            self.check_none(hues, half, rule, thing)
        else:
            self.assertIs(is_paper(hues, half, rule, thing), True)
            self.same(ends_many(hues, half, rule, thing), due)

    def test_a_half_row_that_has_a_clash_already(self):
        half = (0, 0, None, 0)
        for paper in (((), ("clash", 1, 1, 2)), ((), ("clash", 2, 2, 4)), (((3, 1),), ("clash", 1, 1, 2))):
            self.assertIs(is_paper(2, half, "any", paper), True)
            self.same(ends_many(2, half, "any", paper), 1)
            self.check_none(2, half, "unlike", paper)
        cases = ((), ("cases", 3, (((), ("clash", 1, 3, 4)), ((), ("clash", 1, 1, 2)))))
        self.same(ends_many(2, half, "any", cases), 2)
        wrong = [
            ("clash", 1, 2, 3), ("clash", 2, 1, 3), ("clash", 1, 2, 1), ("clash", 0, 1, 1), ("clash", 4, 4, 8),
            ("clash", True, True, 2), ("clash", True, 1, 2), ("clash", 1, 1), ("clash", 1, 1, 2, 2),
            ("clash", (1, 1, 2)), ["clash", 1, 1, 2], ("clash", 1, 1, "2"), ("clash", 1, 1, None), ("Clash", 1, 1, 2),
            ("shut", 1, 1, 2), ("clash",), ("shut",), ("cases",), (), (1, 1, 2), "clash", None,
            (("clash", 1, 1, 2),), ("clash", [1], [1], [2]), ("clash", -1, 2, 1), ("clash", 1, -1, 0),
            ("shut", 3), ("shut", 2), ("clash", 1, 3, 4),
        ]
        for last in wrong:
            self.check_none(2, half, "any", ((), last))

    def test_shut(self):
        half = (0, 1, 1, 0, None)
        for last in (("shut", 5), ("cases", 5, (((), ("clash", 1, 4, 5)), ((), ("clash", 2, 3, 5))))):
            self.assertIs(is_paper(2, half, "any", ((), last)), True)
        self.assertIs(is_paper(1, (0, None), "any", ((), ("shut", 2))), True)
        self.assertIs(is_paper(1, (None, 0), "any", ((), ("shut", 1))), True)
        self.check_none(1, (None, 0), "any", ((), ("shut", True)))
        self.check_none(3, half, "any", ((), ("shut", 5)))
        for number in (0, 1, 4, 6, -1, "5", None, True, (5,), [5], 10 ** 39):
            self.check_none(2, half, "any", ((), ("shut", number)))
        for last in (("shut", 5, 5), ("shut",), ["shut", 5], ("Shut", 5), ("shut", "5"), (5,), 5, "shut"):
            self.check_none(2, half, "any", ((), last))

    def test_cases_that_are_too_few_too_many_or_in_another_order(self):
        half = (0, 1, 1, 0, None)
        zero, one = ((), ("clash", 1, 4, 5)), ((), ("clash", 2, 3, 5))
        for papers in ((zero,), (one, zero), (zero, zero), (zero, one, one), (), [zero, one], {0: zero, 1: one}, None):
            self.check_none(2, half, "any", ((), ("cases", 5, papers)))
        for number in (4, 6, 0, -1, None, "5", (5,)):
            self.check_none(2, half, "any", ((), ("cases", number, (zero, one))))
        self.check_none(2, (0, 0, None), "any", ((), ("cases", 1, (((), ("clash", 1, 1, 2)),) * 2)))
        self.check_none(2, (0, 0, None), "any", ((), ("cases", True, (((), ("clash", 1, 1, 2)),) * 2)))

    def test_one_part_otherwise(self):
        self.assertIs(is_paper(2, OPEN, "any", ((), BY_RUN)), False)
        for paper in (BY_RUN, CASES_BEHIND, STEPS_WITHIN):
            for other in otherwise(paper):
                self.check_as_due(2, OPEN, "any", other)
        for other in otherwise(BY_CASES):
            self.assertIs(is_paper(2, OPEN, "any", other), brute_ends(2, OPEN, "any", other) is not None)

    def test_one_part_otherwise_of_three_hues(self):
        self.same(ends_many(3, OPEN_OF_THREE, "any", OF_THREE), 5)
        for other in otherwise(OF_THREE):
            self.check_as_due(3, OPEN_OF_THREE, "any", other)

    def test_things_of_other_kinds(self):
        wrong = [
            (), ((),), ((), ()), ((), (), ()), [(), ()], "ab", ("", ""), (None, None), ((), None), (None, ()), {(): ()},
        ]
        for half in ((), OPEN, (0, 0), (None,) * 30, (0,) * 30):
            for thing in wrong + ODD:
                self.check_none(2, half, "any", thing)

    def test_no_paper_where_a_clean_row_fits(self):
        for half in ((), (None,) * 4, (0, 1, 1, 0), (0, None, None, None)):
            for paper in PAPERS:
                self.check_none(2, half, "any", paper)

    def test_sixty_deep_and_thirty_numbers(self):
        clash = ((), ("clash", 1, 2, 3))
        for levels in (0, 1, 19, 27):
            half = (0, 0, 0) + (None,) * 27
            paper, wrong = clash, ((), ("clash", 2, 1, 3))
            for number in range(4, 4 + levels):
                paper, wrong = ((), ("cases", number, (paper,))), ((), ("cases", number, (wrong,)))
            for rule in RULES:
                self.assertIs(self.asked(is_paper, 1, half, rule, paper), True)
                self.same(ends_many(1, half, rule, paper), 1)
                self.check_none(1, half, rule, wrong)

    def test_papers_of_half_rows_that_are_not_small(self):
        half = (0,) + (None,) * 29
        for paper in PAPERS:
            self.check_as_due(2, half, "any", paper)
        self.assertIs(is_paper(2, half, "any", BY_CASES), True)
        paper = paper_for(3, (None,) * 14, "any")
        self.same(ends_many(3, (None,) * 30, "any", paper), ends_many(3, (None,) * 14, "any", paper))


class SomePaper(Case):
    """Point 42: some paper for a small half row."""

    def check_told(self, hues, half, rule, fits):
        told = self.asked(paper_for, hues, half, rule)
        if fits:
            self.same(told, None)
            return
        many = brute_ends(hues, half, rule, told)
        self.assertIsNotNone(many, (hues, half, rule))
        self.assertIs(self.asked(is_paper, hues, half, rule, told), True)
        self.same(self.asked(ends_many, hues, half, rule, told), many)

    def test_all_short_ones(self):
        for hues, most in ((1, 6), (2, 6), (3, 4)):
            for half in halves(hues, most):
                for rule in RULES:
                    self.check_told(hues, half, rule, bool(brute_fits(hues, half, rule)))

    def test_longer_ones(self):
        for hues in (1, 2, 3):
            for first in halves(hues, 2):
                for rule in RULES:
                    more = most_small(hues, rule) - len(first)
                    none = (None,) * more
                    for half in (first + none, none + first, (None, *first, 0) + none[2:]):
                        self.check_told(hues, half, rule, bool(brute_fits(hues, half, rule)))

    def test_none_without_a_hue(self):
        for hues in (1, 2, 3):
            for rule in RULES:
                self.same(paper_for(hues, (), rule), None)
                half = (hues - 1,) * most_small(hues, rule)
                self.check_told(hues, half, rule, False)
                self.check_told(hues, half[:-1] + (None,), rule, False)
        for rule in RULES:
            self.same(paper_for(2, (0, 1, 1, 0), rule), None)

    def test_all_without_a_hue(self):
        farthest = {(1, "any"): 1, (1, "unlike"): 2, (2, "any"): 4, (2, "unlike"): 8, (3, "any"): 13, (3, "unlike"): 23}
        for (hues, rule), far in farthest.items():
            for n in range(most_small(hues, rule) + 1):
                self.check_told(hues, (None,) * n, rule, n <= far)

    def test_fourteen_and_fifteen_by_three_hues_of_unlike_seven_and_eight(self):
        for hues in (1, 2, 3):
            for rule in RULES:
                most = most_small(hues, rule)
                for thing in (None, 0):
                    paper_for(hues, (thing,) * most, rule)
                    for n in (most + 1, 30):
                        self.refused(TooMany, paper_for, hues, (thing,) * n, rule)
        for half in ((0, 1, 1, 0, 0), (2,) * 7, (None,) * 7):
            self.check_told(3, half, "unlike", bool(brute_fits(3, half, "unlike")))


class Refused(Case):
    """Point 5: each refusal, and which goes first."""

    def test_no_hues(self):
        for hues in [0, 4, (), (0,), "any"] + ODD:
            self.refused(NoHues, paper_for, hues, (None,), "any")
            self.refused(NoHues, paper_for, hues, (None,) * 15, "any")
            self.refused(NoHues, paper_for, hues, [0], "some")
            for call in (is_paper, ends_many):
                self.refused(NoHues, call, hues, OPEN, "any", BY_RUN)
                self.refused(NoHues, call, hues, [0], "some", None)

    def test_no_row(self):
        for half in [0, 1, 2, "any", (None, True), (0, 1, 2, 3), [0, None], (None,) * 15 + (3,)] + ODD:
            for hues in (1, 2, 3):
                self.refused(NoRow, paper_for, hues, half, "any")
                self.refused(NoRow, paper_for, hues, half, None)
                for call in (is_paper, ends_many):
                    self.refused(NoRow, call, hues, half, "any", BY_RUN)
                    self.refused(NoRow, call, hues, half, None, None)
        self.refused(NoRow, paper_for, 2, (2,) * 15, "any")

    def test_no_rule(self):
        for rule in [0, 1, 2, (), ("any",), ["unlike"], "UNLIKE", "like", b"any"] + ODD:
            for half in ((), OPEN, (None,) * 15, (None,) * 30):
                for hues in (2, 3):
                    self.refused(NoRule, paper_for, hues, half, rule)
                    for call in (is_paper, ends_many):
                        self.refused(NoRule, call, hues, half, rule, BY_RUN)
                        self.refused(NoRule, call, hues, half, rule, None)


if __name__ == "__main__":
    unittest.main()
