import inspect
import itertools
import unittest

from sumhues import rows
from sumhues.errors import NoHue, NoHues, NoLot, NoNumber, NoRow, NoRule
from sumhues.rows import first_form, half_of, is_half, is_row, lots, renamed, sums, sums_with
from tests.helper import (
    NO_HALF, NO_HUES, NO_N, NO_RULE, ODD, RULES, SUMS, Case, halves, long_halves, some_halves,
)


class Interface(unittest.TestCase):

    def test_arguments_stand_as_listed(self):
        listed = {
            "is_half": ["hues", "thing"], "is_row": ["hues", "thing"],
            "lots": ["hues", "half"], "half_of": ["hues", "n", "lots"],
            "sums": ["n", "rule"], "sums_with": ["n", "rule", "number"],
            "renamed": ["hues", "half", "order"], "first_form": ["hues", "half"],
        }
        for name, due in listed.items():
            with self.subTest(name=name):
                self.assertEqual(list(inspect.signature(getattr(rows, name)).parameters), due)


class HalfRows(Case):
    """Point 11: whether a thing is a half row, and whether it is a row."""

    def test_all_made_of_hues_and_none_are_half_rows(self):
        for hues in (1, 2, 3):
            for half in some_halves(hues):
                self.assertIs(self.asked(is_half, hues, half), True)
                self.assertIs(self.asked(is_row, hues, half), None not in half)

    def test_a_hue_of_more_hues_is_none(self):
        for hues, other in ((1, 1), (1, 2), (2, 2), (3, 3), (3, -1), (3, 10 ** 39)):
            for thing in ((other,), (0, other), (other, None), (0,) * 29 + (other,)):
                self.assertIs(is_half(hues, thing), False)
                self.assertIs(is_row(hues, thing), False)

    def test_no_numbers_and_thirty_and_one_more(self):
        for hues in (1, 2, 3):
            for part in (0, hues - 1):
                for n, due in ((0, True), (1, True), (29, True), (30, True), (31, False), (32, False)):
                    self.assertIs(is_half(hues, (part,) * n), due)
                    self.assertIs(is_row(hues, (part,) * n), due)
            self.assertIs(is_half(hues, (None,) * 30), True)
            self.assertIs(is_half(hues, (None,) * 31), False)
            self.assertIs(is_row(hues, (None,) * 30), False)
            self.assertIs(is_row(hues, (0,) * 29 + (None,)), False)

    def test_anything_else_is_no_half_row(self):
        for hues in (1, 2, 3):
            for thing in NO_HALF:
                with self.subTest(thing=repr(thing)[:80]):
                    self.assertIs(self.asked(is_half, hues, thing), False)
                    self.assertIs(self.asked(is_row, hues, thing), False)

    def test_no_hues_goes_first(self):
        for hues in NO_HUES:
            for call in (is_half, is_row):
                self.refused(NoHues, call, hues, ())
                self.refused(NoHues, call, hues, [None])


class Lots(Case):
    """Point 11: the lots of a half row, and the half row of lots."""

    def test_lots_told(self):
        self.same(lots(2, (0, 1, None, 0)), [(1, 4), (2,)])
        self.same(lots(3, (0, 1, None, 0)), [(1, 4), (2,), ()])
        self.same(lots(1, ()), [()])
        self.same(lots(3, ()), [(), (), ()])
        self.same(lots(1, (0,) * 30), [tuple(range(1, 31))])
        self.same(lots(2, (None,) * 30), [(), ()])
        self.same(lots(3, (2,) * 30), [(), (), tuple(range(1, 31))])

    def test_half_rows_told(self):
        self.same(half_of(2, 4, [(1, 4), (2,)]), (0, 1, None, 0))
        self.same(half_of(2, 6, [(1, 4), (2,)]), (0, 1, None, 0, None, None))
        self.same(half_of(3, 0, [(), (), ()]), ())
        self.same(half_of(1, 30, [()]), (None,) * 30)
        self.same(half_of(2, 30, [(), tuple(range(1, 31))]), (1,) * 30)
        self.same(half_of(3, 3, [(3,), (1,), (2,)]), (1, 2, 0))

    def test_there_and_back(self):
        for hues in (1, 2, 3):
            for half in some_halves(hues):
                told = self.asked(lots, hues, half)
                due = [tuple(x + 1 for x in range(len(half)) if half[x] == hue) for hue in range(hues)]
                self.same(told, due)
                self.same(self.asked(half_of, hues, len(half), told), half)

    def test_lists_are_the_askers_own(self):
        self.owned(lots, 3, (0, 1, None, 2))
        handed = [(1,), (2,)]
        half = half_of(2, 3, handed)
        handed[0] = (3,)
        handed.append(())
        self.same(half, (0, 1, None))
        self.same(half_of(2, 3, [(1,), (2,)]), (0, 1, None))

    def test_lots_refused(self):
        for hues in NO_HUES:
            self.refused(NoHues, lots, hues, (0,))
            self.refused(NoHues, lots, hues, [0])
        for hues in (1, 2, 3):
            for half in NO_HALF:
                self.refused(NoRow, lots, hues, half)
        self.refused(NoRow, lots, 1, (1,))
        self.refused(NoRow, lots, 2, (0, 2))

    def test_half_of_refused(self):
        for hues in NO_HUES:
            self.refused(NoHues, half_of, hues, 2, [(), ()])
            self.refused(NoHues, half_of, hues, 31, None)
        for n in NO_N:
            self.refused(NoNumber, half_of, 2, n, [(), ()])
            self.refused(NoNumber, half_of, 2, n, ())

    def test_no_lots(self):
        wrong = [
            [], [()], [(), (), ()], ((), ()), {0: (), 1: ()}, {(): (), (1,): ()}, "ab", [[], ()], [(), [1]],
            [(1,), (1,)], [(1, 2), (2, 3)], [(1, 1), ()], [(2, 1), ()], [(), (1, 3, 2)],
            [(0,), ()], [(), (5,)], [(-1,), ()], [(), (1, 5)], [(10 ** 39,), ()],
            [(True,), ()], [(), (1, True)], [(False, 1), ()], [("1",), ()], [(), (None,)],
            [(1, (2,)), ()], [((1,), (2,)), ()], [None, None], [1, 2], ["1", "2"], [{}, {}], [(1, "2"), ()],
            [(1,) * 4000, (2,)], [tuple(range(1, 4000)), ()],
        ]
        for handed in wrong + ODD:
            self.refused(NoLot, half_of, 2, 4, handed)
        self.refused(NoLot, half_of, 1, 0, [(1,)])
        self.refused(NoLot, half_of, 1, 30, [(31,)])
        self.refused(NoLot, half_of, 3, 30, [(1,), (2,), (3, 1)])
        self.refused(NoLot, half_of, 3, 30, [(1,), (2,), (3, 30, 1)])
        self.refused(NoLot, half_of, 3, 30, [(7,), (), (7,)])
        self.refused(NoLot, half_of, 3, 30, [(1,), (2,)])
        self.refused(NoLot, half_of, 1, 30, [(1,), (2,)])


class Sums(Case):
    """Point 12."""

    def test_few(self):
        self.same(sums(0, "any"), [])
        self.same(sums(1, "any"), [])
        self.same(sums(2, "any"), [(1, 1, 2)])
        self.same(sums(2, "unlike"), [])
        self.same(sums(3, "unlike"), [(1, 2, 3)])
        self.same(sums(5, "any"), [(1, 1, 2), (1, 2, 3), (1, 3, 4), (1, 4, 5), (2, 2, 4), (2, 3, 5)])
        self.same(sums(5, "unlike"), [(1, 2, 3), (1, 3, 4), (1, 4, 5), (2, 3, 5)])
        self.same(sums_with(5, "any", 2), [(1, 1, 2), (1, 2, 3), (2, 2, 4), (2, 3, 5)])
        self.same(sums_with(5, "unlike", 4), [(1, 3, 4), (1, 4, 5)])
        self.same(sums_with(1, "any", 1), [])

    def test_all(self):
        for n in range(31):
            for rule in RULES:
                due = SUMS[n, rule]
                self.same(self.asked(sums, n, rule), due)
                for number in range(1, n + 1):
                    told = self.asked(sums_with, n, rule, number)
                    self.same(told, [one for one in due if one.count(number) > 0])

    def test_lists_are_the_askers_own(self):
        for rule in RULES:
            self.owned(sums, 0, rule)
            self.owned(sums, 9, rule)
            self.owned(sums_with, 9, rule, 3)
            self.owned(sums_with, 1, rule, 1)

    def test_refused(self):
        for n in NO_N:
            self.refused(NoNumber, sums, n, "any")
            self.refused(NoNumber, sums, n, "some")
            self.refused(NoNumber, sums_with, n, "any", 1)
            self.refused(NoNumber, sums_with, n, None, 1)
        for rule in NO_RULE:
            self.refused(NoRule, sums, 5, rule)
            self.refused(NoRule, sums_with, 5, rule, 1)
            self.refused(NoRule, sums_with, 5, rule, 0)
        for rule in RULES:
            for number in [0, 6, "any", (), (1,)] + ODD:
                self.refused(NoNumber, sums_with, 5, rule, number)
            self.refused(NoNumber, sums_with, 30, rule, 31)
            for number in (0, 1):
                self.refused(NoNumber, sums_with, 0, rule, number)


class Names(Case):
    """Point 13."""

    def test_few(self):
        self.same(renamed(2, (0, 1, None), (1, 0)), (1, 0, None))
        self.same(renamed(3, (0, 1, 2, None, 0), (1, 2, 0)), (1, 2, 0, None, 1))
        self.same(renamed(3, (), (2, 1, 0)), ())
        self.same(renamed(1, (0, None), (0,)), (0, None))
        self.same(first_form(3, (2, None, 0, 2, 1)), (0, None, 1, 0, 2))
        self.same(first_form(3, (None, 1, 1, 2)), (None, 0, 0, 1))
        self.same(first_form(3, (2,)), (0,))
        self.same(first_form(2, ()), ())

    def test_named_anew(self):
        for hues in (1, 2, 3):
            for half in some_halves(hues):
                for order in itertools.permutations(range(hues)):
                    due = list(half)
                    for at, hue in enumerate(half):
                        if hue is not None:
                            due[at] = order[hue]
                    self.same(self.asked(renamed, hues, half, order), tuple(due))

    def test_the_first_form_is_the_least_name(self):
        # Of all names of a half row, the first form is the least, with None as -1.
        for hues in (1, 2, 3):
            for half in some_halves(hues):
                names = [renamed(hues, half, order) for order in itertools.permutations(range(hues))]
                due = min(names, key=lambda name: [-1 if hue is None else hue for hue in name])
                self.same(self.asked(first_form, hues, half), due)

    def test_all_names_have_one_first_form(self):
        for half in itertools.chain(halves(3, 3), long_halves(3)):
            forms = {first_form(3, renamed(3, half, order)) for order in itertools.permutations(range(3))}
            self.assertEqual(len(forms), 1)

    def test_refused(self):
        for hues in NO_HUES:
            self.refused(NoHues, renamed, hues, (0,), (0,))
            self.refused(NoHues, renamed, hues, [0], [0])
            self.refused(NoHues, first_form, hues, (0,))
            self.refused(NoHues, first_form, hues, [0])
        for hues in (1, 2, 3):
            for half in NO_HALF:
                self.refused(NoRow, renamed, hues, half, tuple(range(hues)))
                self.refused(NoRow, renamed, hues, half, None)
                self.refused(NoRow, first_form, hues, half)

    def test_no_order(self):
        wrong = [
            (), (0,), (1,), (0, 0), (1, 1), (0, 2), (1, 2), (0, 1, 2), (0, 1, 0), (-1, 0), (0, True), (False, 1),
            [0, 1], [1, 0], "01", {0: 1, 1: 0}, (0, None), (0, "1"), ((0,), (1,)), (0, (1,)), ("0", "1"), (None, None),
        ]
        for order in wrong + ODD:
            self.refused(NoHue, renamed, 2, (0, 1), order)
            self.refused(NoHue, renamed, 2, (), order)
        self.refused(NoHue, renamed, 1, (0,), (False,))
        self.refused(NoHue, renamed, 1, (0,), (0, 1))
        self.refused(NoHue, renamed, 1, (0,), (1,))
        self.refused(NoHue, renamed, 3, (0,), (1, 0))
        self.refused(NoHue, renamed, 3, (0,), (0, 1, 1))
        self.refused(NoHue, renamed, 3, (0,), (1, 2, 3))


if __name__ == "__main__":
    unittest.main()
