import inspect
import unittest

from sumhues import fits as module
from sumhues.errors import NoHues, NoRow, NoRule, TooMany
from sumhues.fits import all_fits, far_from, far_rows, farthest, first_fit, fits_many, may_have, sure
from tests.helper import ODD, RULES, Case, brute_clashes, brute_clean_rows, brute_fits, halves, most_small

OF_HALVES = (all_fits, fits_many, first_fit, may_have, sure)
FARTHEST = {(1, "any"): 1, (1, "unlike"): 2, (2, "any"): 4, (2, "unlike"): 8, (3, "any"): 13}
TWO_BY_ANY = [(0, 1, 1, 0), (1, 0, 0, 1)]
TWO_BY_UNLIKE = [(0, 0, 1, 0, 1, 1, 1, 0), (1, 1, 0, 1, 0, 0, 0, 1)]


def many_halves(hues, rule):
    """Small half rows: all short ones, and longer ones with few hues."""
    yield from halves(hues, 4)
    most = most_small(hues, rule)
    firsts = list(halves(hues, 1)) + [(0, hues - 1), (hues - 1, None), (None, 0), (0, 0)]
    for more in (3, most // 2, most - 3, most - 2):
        for first in firsts:
            yield first + (None,) * more
            yield (None,) * more + first
            yield (None, *first) + (None,) * (more - 1)


def brute_far(hues, half, rule):
    """How far the half row can go; FARTHEST itself is tested below."""
    lengths = range(len(half), FARTHEST[hues, rule] + 1)
    return max([n for n in lengths if brute_fits(hues, half + (None,) * (n - len(half)), rule)], default=None)


class Interface(unittest.TestCase):

    def test_arguments_stand_as_listed(self):
        for call in OF_HALVES + (far_from,):
            with self.subTest(name=call.__name__):
                self.assertIs(getattr(module, call.__name__), call)
                self.assertEqual(list(inspect.signature(call).parameters), ["hues", "half", "rule"])
        for call in (farthest, far_rows):
            self.assertEqual(list(inspect.signature(call).parameters), ["hues", "rule"])


class Told(Case):
    """Points 51 and 52 on half rows worked out by hand."""

    def test_two_hues(self):
        half = (None,) * 3
        rows = [(0, 1, 0), (0, 1, 1), (1, 0, 0), (1, 0, 1)]
        self.same(all_fits(2, half, "any"), rows)
        self.same(fits_many(2, half, "any"), 4)
        self.same(first_fit(2, half, "any"), (0, 1, 0))
        self.same(may_have(2, half, "any"), ((0, 1), (0, 1), (0, 1)))
        self.same(sure(2, half, "any"), (None, None, None))

    def test_two_hues_with_one_given(self):
        half = (None, None, 1, None)
        self.same(all_fits(2, half, "any"), [(0, 1, 1, 0)])
        self.same(may_have(2, half, "any"), ((0,), (1,), (1,), (0,)))
        self.same(sure(2, half, "any"), (0, 1, 1, 0))
        self.same(all_fits(2, (None, 0, None), "any"), [(1, 0, 0), (1, 0, 1)])
        self.same(may_have(2, (None, 0, None), "any"), ((1,), (0,), (0, 1)))
        self.same(sure(2, (None, 0, None), "any"), (1, 0, None))
        self.same(first_fit(2, (1, None, None), "any"), (1, 0, 0))

    def test_two_hues_by_unlike(self):
        self.same(all_fits(2, (None,) * 8, "unlike"), TWO_BY_UNLIKE)
        self.same(sure(2, (None,) * 7 + (1,), "unlike"), TWO_BY_UNLIKE[1])
        self.same(all_fits(2, (0, 0, None), "unlike"), [(0, 0, 1)])
        self.same(sure(2, (0, 0, None), "unlike"), (0, 0, 1))

    def test_no_numbers(self):
        for hues in (1, 2, 3):
            for rule in RULES:
                self.same(all_fits(hues, (), rule), [()])
                self.same(fits_many(hues, (), rule), 1)
                self.same(first_fit(hues, (), rule), ())
                self.same(may_have(hues, (), rule), ())
                self.same(sure(hues, (), rule), ())

    def test_one_hue(self):
        self.same(all_fits(1, (None,), "any"), [(0,)])
        self.same(sure(1, (None,), "any"), (0,))
        self.same(all_fits(1, (None, None), "any"), [])
        self.same(all_fits(1, (None, None), "unlike"), [(0, 0)])
        self.same(may_have(1, (None, 0), "unlike"), ((0,), (0,)))
        self.same(all_fits(1, (None,) * 14, "unlike"), [])

    def test_none_without_a_hue(self):
        for row in ((0, 1, 1, 0), (1, 0, 0, 1)):
            for rule in RULES:
                self.same(all_fits(2, row, rule), [row])
                self.same(first_fit(2, row, rule), row)
                self.same(may_have(2, row, rule), tuple((hue,) for hue in row))
                self.same(sure(2, row, rule), row)
        self.check_nothing_fits(2, (0, 1, 1, 0, 1), "any")
        self.check_nothing_fits(3, (2,) * 14, "any")
        self.check_nothing_fits(3, (2,) * 7, "unlike")

    def check_nothing_fits(self, hues, half, rule):
        self.same(all_fits(hues, half, rule), [])
        self.same(fits_many(hues, half, rule), 0)
        self.same(first_fit(hues, half, rule), None)
        self.same(may_have(hues, half, rule), ((),) * len(half))
        self.same(sure(hues, half, rule), None)

    def test_a_clash_already(self):
        for half in ((0, 0), (0, 0, None), (None, 1, None, 1), (None, None, 0, None, 0, None, None, 0) + (None,) * 6):
            self.check_nothing_fits(3, half, "any")
        self.check_nothing_fits(3, (0, None, 0, 0, None, None, None), "unlike")

    def test_nothing_fits_though_there_is_no_clash(self):
        self.check_nothing_fits(2, (None,) * 5, "any")
        self.check_nothing_fits(2, (0, None, 0, None), "any")
        self.check_nothing_fits(2, (None,) * 9, "unlike")

    def test_all_of_fourteen_and_thirteen_without_a_hue(self):
        for hues in (1, 2, 3):
            self.check_nothing_fits(hues, (None,) * 14, "any")
        for hues in (1, 2):
            self.check_nothing_fits(hues, (None,) * 14, "unlike")
        self.same(fits_many(3, (None,) * 13, "any"), 18)
        self.same(fits_many(3, (None,) * 7, "unlike"), len(brute_clean_rows(3, 7, "unlike")))
        self.same(may_have(3, (None,) * 7, "unlike"), ((0, 1, 2),) * 7)


class ByBruteForce(Case):

    def test_what_fits(self):
        for hues in (1, 2, 3):
            for rule in RULES:
                for half in many_halves(hues, rule):
                    self.check_what_fits(hues, half, rule)

    def check_what_fits(self, hues, half, rule):
        due = brute_fits(hues, half, rule)
        told = self.asked(all_fits, hues, half, rule)
        self.same(told, due)
        self.assertEqual(told, sorted(told))
        self.same(self.asked(fits_many, hues, half, rule), len(due))
        self.same(self.asked(first_fit, hues, half, rule), due[0] if due else None)
        columns = [sorted({row[at] for row in due}) for at in range(len(half))]
        self.same(self.asked(may_have, hues, half, rule), tuple(tuple(column) for column in columns))
        alike = tuple(column[0] if len(column) == 1 else None for column in columns)
        self.same(self.asked(sure, hues, half, rule), alike if due else None)

    def test_how_far(self):
        for hues, rule in FARTHEST:
            for half in many_halves(hues, rule):
                self.same(self.asked(far_from, hues, half, rule), brute_far(hues, half, rule))


class Far(Case):
    """Point 53."""

    def test_the_farthest(self):
        for (hues, rule), due in FARTHEST.items():
            self.same(self.asked(farthest, hues, rule), due)
            rows = self.asked(far_rows, hues, rule)
            self.same(rows, brute_clean_rows(hues, due, rule))
            self.same(brute_clean_rows(hues, due + 1, rule), [])
            self.assertEqual(rows, sorted(rows))

    def test_the_rows(self):
        self.same(far_rows(1, "any"), [(0,)])
        self.same(far_rows(1, "unlike"), [(0, 0)])
        self.same(far_rows(2, "any"), TWO_BY_ANY)
        self.same(far_rows(2, "unlike"), TWO_BY_UNLIKE)
        rows = far_rows(3, "any")
        self.same(len(rows), 18)
        for row in rows:
            self.same(brute_clashes(row, "any"), [])
        self.same(rows[0], (0, 1, 1, 0, 2, 2, 0, 2, 2, 0, 1, 1, 0))

    def test_how_far_few(self):
        self.same(far_from(2, (), "any"), 4)
        self.same(far_from(2, (0, 1), "any"), 4)
        self.same(far_from(2, (0, 1, 0), "any"), 3)
        self.same(far_from(2, (None, None, 1), "unlike"), 8)
        self.same(far_from(2, (0, 1), "unlike"), brute_far(2, (0, 1), "unlike"))
        self.same(far_from(1, (), "any"), 1)
        self.same(far_from(1, (None, None), "any"), None)
        self.same(far_from(1, (0, None), "unlike"), 2)
        self.same(far_from(3, (0, 1, 1, 0, 2, None, None), "any"), 13)

    def test_none_where_nothing_fits(self):
        for hues, rule in FARTHEST:
            far = FARTHEST[hues, rule]
            self.same(far_from(hues, (None,) * far, rule), far)
            self.same(far_from(hues, (None,) * (far + 1), rule), None)
            self.same(far_from(hues, (None,) * 14, rule), None)
            self.same(far_from(hues, (0,) * 14, rule), None)
            self.same(far_from(hues, (0, 0, 0), rule), None)
        self.same(far_from(2, (0, 0), "any"), None)
        self.same(far_from(2, (0, 1, 1, 0, 1), "any"), None)


class OwnLists(Case):
    """Point 4."""

    def test_lists_are_the_askers_own(self):
        for half in ((), (None,), (None,) * 4, (0, 0), (0, 1, 1, 0)):
            for rule in RULES:
                self.owned(all_fits, 2, half, rule)
        for hues, rule in FARTHEST:
            self.owned(far_rows, hues, rule)


class Refused(Case):
    """Points 5 and 7: each refusal, and which goes first."""

    def test_no_hues(self):
        for hues in [0, 4, (), (0,), "any"] + ODD:
            for call in OF_HALVES + (far_from,):
                self.refused(NoHues, call, hues, (None,), "any")
                self.refused(NoHues, call, hues, (None,) * 15, "unlike")
                self.refused(NoHues, call, hues, [0], "some")
            for call in (farthest, far_rows):
                self.refused(NoHues, call, hues, "any")
                self.refused(NoHues, call, hues, "some")

    def test_no_row(self):
        for half in [0, 1, 2, "any", (None, True), (0, 1, 2, 3), [0, None], (None,) * 15 + (3,)] + ODD:
            for hues in (1, 2, 3):
                for call in OF_HALVES + (far_from,):
                    self.refused(NoRow, call, hues, half, "any")
                    self.refused(NoRow, call, hues, half, "unlike")
                    self.refused(NoRow, call, hues, half, None)
        for call in OF_HALVES + (far_from,):
            self.refused(NoRow, call, 2, (2,) * 15, "any")
            self.refused(NoRow, call, 1, (None, 1), "any")

    def test_no_rule(self):
        for rule in [0, 1, 2, (), ("any",), ["unlike"], "UNLIKE", "like", b"any"] + ODD:
            for hues in (1, 2, 3):
                for half in ((), (None, 0), (None,) * 15, (0,) * 30):
                    for call in OF_HALVES + (far_from,):
                        self.refused(NoRule, call, hues, half, rule)
                for call in (farthest, far_rows):
                    self.refused(NoRule, call, hues, rule)

    def test_too_many_numbers(self):
        for hues in (1, 2, 3):
            for rule in RULES:
                most = most_small(hues, rule)
                for thing in (None, 0):
                    for call in OF_HALVES:
                        call(hues, (thing,) * most, rule)
                        for n in (most + 1, 30):
                            self.refused(TooMany, call, hues, (thing,) * n, rule)
        for hues, rule in FARTHEST:
            for thing in (None, 0):
                for n in (15, 30):
                    self.refused(TooMany, far_from, hues, (thing,) * n, rule)

    def test_three_hues_by_unlike_go_too_far(self):
        for call in (farthest, far_rows):
            self.refused(TooMany, call, 3, "unlike")
        for half in ((), (None,), (0, 0, 0), (2, 1), (None,) * 7, (None,) * 8, (0,) * 14, (None,) * 30):
            self.refused(TooMany, far_from, 3, half, "unlike")


if __name__ == "__main__":
    unittest.main()
