import collections
import functools
import inspect
import itertools
import unittest

from sumhues import keys as module
from sumhues.errors import NoClean, NoHues, NoRow, NoRule, TooMany
from sumhues.keys import are_keys, changeable, fewest_keys
from tests.helper import NO_HUES, NO_ROW, NO_RULE, ODD, RULES, Case, brute_clashes, brute_clean_rows, having

FAR = (0, 1, 1, 0)
# With three hues by `any` clean, of nine numbers; its first eight are clean, too.
NINE = (0, 1, 1, 0, 2, 2, 0, 2, 2)
SEVEN = (0, 0, 1, 0, 1, 1, 1)
OTHERS = (fewest_keys, changeable)


def most_keyed(hues, rule):
    return 6 if hues == 3 and rule == "unlike" else 8


def subsets(n):
    return [lot for many in range(n + 1) for lot in itertools.combinations(range(1, n + 1), many)]


@functools.cache
def brute_counts(hues, n, rule):
    """For each lot and the hues there, how many clean rows have these."""
    counts = collections.Counter()
    for row in brute_clean_rows(hues, n, rule):
        for lot in subsets(n):
            counts[lot, tuple(row[x - 1] for x in lot)] += 1
    return counts


def brute_are_keys(hues, row, rule, lot):
    return brute_counts(hues, len(row), rule)[lot, tuple(row[x - 1] for x in lot)] == 1


def brute_fewest_keys(hues, row, rule):
    found = [lot for lot in subsets(len(row)) if brute_are_keys(hues, row, rule, lot)]
    return min(found, key=lambda lot: (len(lot), lot))


def brute_changeable(hues, row, rule):
    found = set()
    for number, hue in itertools.product(range(1, len(row) + 1), range(hues)):
        if hue != row[number - 1] and brute_clashes(having(row, number, hue), rule) == []:
            found.add(number)
    return sorted(found)


def all_kinds():
    for hues, rule in itertools.product((1, 2, 3), RULES):
        for n in range(most_keyed(hues, rule) + 1):
            yield hues, rule, n


class Interface(unittest.TestCase):

    def test_arguments_stand_as_listed(self):
        listed = {
            "are_keys": ["hues", "row", "rule", "thing"], "fewest_keys": ["hues", "row", "rule"],
            "changeable": ["hues", "row", "rule"],
        }
        for name, due in listed.items():
            with self.subTest(name=name):
                self.assertEqual(list(inspect.signature(getattr(module, name)).parameters), due)


class Told(Case):
    """Point 91 on rows worked out by hand."""

    def test_the_farthest_row_of_two_hues(self):
        # There are just two clean rows of four numbers, and they differ at each.
        for lot in subsets(4):
            self.assertIs(are_keys(2, FAR, "any", lot), lot != ())
        self.same(fewest_keys(2, FAR, "any"), (1,))
        self.same(changeable(2, FAR, "any"), [])

    def test_three_numbers(self):
        # Clean are (0, 1, 0), (0, 1, 1), (1, 0, 0), (1, 0, 1).
        self.assertIs(are_keys(2, (0, 1, 0), "any", (1, 3)), True)
        self.assertIs(are_keys(2, (0, 1, 0), "any", (2, 3)), True)
        self.assertIs(are_keys(2, (0, 1, 0), "any", (1, 2)), False)
        self.assertIs(are_keys(2, (0, 1, 0), "any", (3,)), False)
        self.assertIs(are_keys(2, (0, 1, 0), "any", ()), False)
        self.same(fewest_keys(2, (0, 1, 0), "any"), (1, 3))
        self.same(changeable(2, (0, 1, 0), "any"), [3])

    def test_the_fewest_go_ahead_of_the_first(self):
        # Of three numbers by `unlike` all rows are clean but the two in one hue: two that are alike tell the third.
        self.same(fewest_keys(2, (0, 0, 1), "unlike"), (1, 2))
        self.assertIs(are_keys(2, (0, 1, 0), "unlike", (1, 2, 3)), True)
        self.assertLess((1, 2, 3), (1, 3))
        self.same(fewest_keys(2, (0, 1, 0), "unlike"), (1, 3))
        self.same(fewest_keys(2, (1, 0, 0), "unlike"), (2, 3))
        self.same(fewest_keys(2, (0, 0), "unlike"), (1, 2))
        self.same(changeable(2, (0, 1, 0), "unlike"), [1, 3])
        self.same(changeable(2, (0, 0), "unlike"), [1, 2])

    def test_no_numbers(self):
        for hues in (1, 2, 3):
            for rule in RULES:
                self.assertIs(are_keys(hues, (), rule, ()), True)
                self.assertIs(are_keys(hues, (), rule, (1,)), False)
                self.same(fewest_keys(hues, (), rule), ())
                self.same(changeable(hues, (), rule), [])

    def test_one_hue(self):
        for row, rule in (((0,), "any"), ((0,), "unlike"), ((0, 0), "unlike")):
            for lot in subsets(len(row)):
                self.assertIs(are_keys(1, row, rule, lot), True)
            self.same(fewest_keys(1, row, rule), ())
            self.same(changeable(1, row, rule), [])


class ByBruteForce(Case):

    def test_keys(self):
        for hues, rule, n in all_kinds():
            found = brute_clean_rows(hues, n, rule)
            for row in found[::max(1, len(found) // 6)]:
                for lot in subsets(n)[::1 if n < 6 else 7]:
                    told = are_keys(hues, row, rule, lot)
                    self.assertIs(told, brute_are_keys(hues, row, rule, lot))
                self.assertIs(self.asked(are_keys, hues, row, rule, tuple(range(1, n + 1))), True)

    def test_the_fewest(self):
        for hues, rule, n in all_kinds():
            found = brute_clean_rows(hues, n, rule)
            for row in found[::max(1, len(found) // 30)]:
                told = self.asked(fewest_keys, hues, row, rule)
                self.same(told, brute_fewest_keys(hues, row, rule))
                self.assertIs(are_keys(hues, row, rule, told), True)

    def test_what_can_be_changed(self):
        for hues, rule, n in all_kinds():
            for row in brute_clean_rows(hues, n, rule):
                told = self.asked(changeable, hues, row, rule)
                self.same(told, brute_changeable(hues, row, rule))
                # What can be changed stands in all keys.
                self.assertLessEqual(set(told), set(brute_fewest_keys(hues, row, rule)))

    def test_lists_are_the_askers_own(self):
        for row in ((), (0,), (0, 1, 0), FAR):
            for rule in RULES:
                self.owned(changeable, 2, row, rule)


class Anything(Case):

    def test_things_that_are_no_keys(self):
        wrong = [
            0, 1, "any", "1", "12", [1], [1, 2], [], ([1],), ((1,),), ((1,), (2,)), (1, (2,)), {1: 2}, {}, (2, 1), (1, 1),
            (1, 2, 2), (True,), (True, 2), (1, True), (False,), (None,), (1, None), ("1",), (1, "2"), (1, [2]), (0,),
            (0, 1), (5,), (1, 5), (1, 2, 3, 4, 5), (-1, 1), (1, 10 ** 39), (1,) * 9000, tuple(range(1, 9000)), b"\x01",
        ]
        for thing in wrong + ODD:
            for rule in RULES:
                with self.subTest(thing=repr(thing)[:80]):
                    self.assertIs(self.asked(are_keys, 2, FAR, rule, thing), False)

    def test_of_one_hue_where_all_lots_are_keys(self):
        for thing in ["", [], {}, [()], (0,), (2,), (True,), (1, 1), ((),), None, 0, False] + ODD:
            self.assertIs(are_keys(1, (0,), "any", thing), False)


class Refused(Case):
    """Points 5 and 91: each refusal, and which goes first."""

    def all_refused(self, error, hues, row, rule):
        for call in OTHERS:
            self.refused(error, call, hues, row, rule)
        for thing in ((), (1,), None, [1]):
            self.refused(error, are_keys, hues, row, rule, thing)

    def test_no_hues(self):
        for wrong in NO_HUES:
            self.all_refused(NoHues, wrong, (0,), "any")
            self.all_refused(NoHues, wrong, [0], "some")

    def test_no_row(self):
        for wrong in NO_ROW:
            for hues in (1, 2, 3):
                self.all_refused(NoRow, hues, wrong, "any")
                self.all_refused(NoRow, hues, wrong, None)
        self.all_refused(NoRow, 2, (0, 2), "any")
        self.all_refused(NoRow, 1, (1,), "unlike")

    def test_no_rule(self):
        for wrong in NO_RULE:
            for row in ((), (0, 1), (0, 0, 0), (0,) * 30):
                self.all_refused(NoRule, 2, row, wrong)

    def test_not_clean(self):
        for hues in (1, 2, 3):
            self.all_refused(NoClean, hues, (0, 0), "any")
            self.all_refused(NoClean, hues, (0, 0, 0), "unlike")
        self.all_refused(NoClean, 2, FAR + (1,), "any")

    def test_not_clean_goes_ahead_of_too_many(self):
        for hues in (1, 2, 3):
            for rule in RULES:
                for n in (7, 8, 9, 30):
                    self.all_refused(NoClean, hues, (0,) * n, rule)
        self.all_refused(NoClean, 3, NINE[:7] + (0, 2), "any")
        self.all_refused(NoClean, 3, (0, 1, 2, 0, 0, 1, 0), "unlike")

    def test_too_many(self):
        self.same(brute_clashes(NINE, "any"), [])
        self.all_refused(TooMany, 3, NINE, "any")
        self.all_refused(TooMany, 3, (0, 1, 1, 0, 2, 2, 0, 2, 2, 0, 1, 1, 0), "any")
        self.same(brute_clashes(SEVEN, "unlike"), [])
        self.all_refused(TooMany, 3, SEVEN, "unlike")
        self.all_refused(TooMany, 3, NINE[:8], "unlike")
        self.all_refused(TooMany, 3, NINE, "unlike")

    def test_just_as_many_as_are_let(self):
        for hues, row, rule in (
            (3, NINE[:8], "any"), (3, SEVEN[:6], "unlike"), (2, SEVEN, "unlike"), (2, SEVEN + (0,), "unlike"),
            (3, NINE[:7], "any"),
        ):
            self.same(fewest_keys(hues, row, rule), brute_fewest_keys(hues, row, rule))
            self.same(changeable(hues, row, rule), brute_changeable(hues, row, rule))
            self.assertIs(are_keys(hues, row, rule, tuple(range(1, len(row) + 1))), True)


if __name__ == "__main__":
    unittest.main()
