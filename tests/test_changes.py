import inspect
import itertools
import unittest

from sumhues import changes as module
from sumhues.changes import change, is_settled, led_down
from sumhues.clashes import clashes
from sumhues.errors import NoHue, NoHues, NoNumber, NoRow, NoRule
from tests.helper import NO_HUES, NO_ROW, NO_RULE, ODD, RULES, Case, brute_clashes, having, long_rows, rows

FAR = (0, 1, 1, 0)


def brute_changes(hues, row, rule):
    """All changes as (more, number, hue)."""
    before = len(brute_clashes(row, rule))
    told = []
    for number, hue in itertools.product(range(1, len(row) + 1), range(hues)):
        told.append((len(brute_clashes(having(row, number, hue), rule)) - before, number, hue))
    return told


def brute_led_down(hues, row, rule):
    told = [row]
    while True:
        fewer = [one for one in brute_changes(hues, told[-1], rule) if one[0] < 0]
        if not fewer:
            return told
        least = min(more for more, number, hue in fewer)
        first = min((number, hue) for more, number, hue in fewer if more == least)
        told.append(having(told[-1], *first))


class Interface(unittest.TestCase):

    def test_arguments_stand_as_listed(self):
        listed = {
            "change": ["hues", "row", "rule", "number", "hue"], "is_settled": ["hues", "row", "rule"],
            "led_down": ["hues", "row", "rule"],
        }
        for name, due in listed.items():
            with self.subTest(name=name):
                self.assertEqual(list(inspect.signature(getattr(module, name)).parameters), due)


class Change(Case):
    """Point 72: how many clashes more."""

    def test_few(self):
        self.same(change(2, (0, 0), "any", 1, 1), -1)
        self.same(change(2, (0, 0), "any", 2, 1), -1)
        self.same(change(2, (0, 0), "unlike", 2, 1), 0)
        self.same(change(2, FAR, "any", 2, 0), 2)
        self.same(change(2, FAR, "any", 1, 1), 2)
        self.same(change(2, (1, 0, 0, 0), "any", 1, 0), 3)
        self.same(change(3, (0, 0, 0, 0), "any", 2, 2), -3)
        self.same(change(3, (0, 0, 0, 0), "unlike", 3, 1), -2)

    def test_to_the_hue_it_has(self):
        for hues in (1, 2, 3):
            for row in itertools.chain(rows(hues, 4), long_rows(hues)):
                for rule in RULES:
                    for number in range(1, len(row) + 1):
                        self.same(change(hues, row, rule, number, row[number - 1]), 0)

    def test_thirty_in_one_hue(self):
        # 1 stands in (1, 1, 2) and in (1, b, b + 1) for b from 2 to 29.
        self.same(change(2, (0,) * 30, "any", 1, 1), -29)
        self.same(change(2, (0,) * 30, "unlike", 1, 1), -28)
        self.same(change(2, (1,) + (0,) * 29, "any", 1, 0), 29)
        # 30 comes of (a, 30 - a) for a from 1 to 15, or to 14.
        self.same(change(3, (2,) * 30, "any", 30, 0), -15)
        self.same(change(3, (2,) * 30, "unlike", 30, 0), -14)

    def test_by_brute_force(self):
        for hues in (1, 2, 3):
            for row in itertools.chain(rows(hues, {1: 8, 2: 7, 3: 4}[hues]), long_rows(hues)):
                for rule in RULES:
                    for more, number, hue in brute_changes(hues, row, rule):
                        self.same(self.asked(change, hues, row, rule, number, hue), more)


class LedDown(Case):
    """Point 72: settled rows, and rows led down."""

    def test_few(self):
        self.same(led_down(2, (0, 0), "any"), [(0, 0), (1, 0)])
        self.same(led_down(2, (0, 0), "unlike"), [(0, 0)])
        self.same(led_down(2, (0, 0, 0, 0), "any"), [(0, 0, 0, 0), (1, 0, 0, 0), (1, 0, 0, 1)])
        self.same(led_down(3, (0, 0, 0, 0), "any"), [(0, 0, 0, 0), (1, 0, 0, 0), (1, 2, 0, 0)])
        self.same(led_down(3, (2, 2, 1), "any"), [(2, 2, 1), (0, 2, 1)])
        self.assertIs(is_settled(2, (0, 0), "any"), False)
        self.assertIs(is_settled(2, (0, 0), "unlike"), True)
        self.assertIs(is_settled(2, FAR, "any"), True)

    def test_of_one_number_the_least_hue(self):
        self.same(led_down(3, (0, 0), "any")[1], (1, 0))
        self.same(led_down(3, (1, 1), "any")[1], (0, 1))
        self.same(led_down(3, (2, 2), "any")[1], (0, 2))

    def test_the_change_that_makes_it_fewest_and_not_the_first_one(self):
        # Of (1, 1, 2) and (2, 2, 4) the number 1 takes one away, and 2 both.
        self.same(change(2, (0, 0, 1, 0), "any", 1, 1), -1)
        self.same(change(2, (0, 0, 1, 0), "any", 2, 1), -2)
        self.same(led_down(2, (0, 0, 1, 0), "any"), [(0, 0, 1, 0), (0, 1, 1, 0)])

    def test_settled_at_once(self):
        for hues in (1, 2, 3):
            for rule in RULES:
                for row in ((), (0,), (hues - 1,)):
                    self.assertIs(is_settled(hues, row, rule), True)
                    self.same(led_down(hues, row, rule), [row])
        for n in range(31):
            for rule in RULES:
                self.assertIs(is_settled(1, (0,) * n, rule), True)
                self.same(led_down(1, (0,) * n, rule), [(0,) * n])

    def test_a_settled_row_may_have_clashes(self):
        found = [row for row in rows(2, 6) if is_settled(2, row, "any") and brute_clashes(row, "any")]
        self.assertIn((0, 1, 1, 0, 1), found)
        for row in found:
            self.same(led_down(2, row, "any"), [row])

    def test_by_brute_force(self):
        longest = 0
        for hues in (1, 2, 3):
            for row in itertools.chain(rows(hues, {1: 8, 2: 7, 3: 4}[hues]), long_rows(hues)):
                for rule in RULES:
                    told = self.asked(led_down, hues, row, rule)
                    self.same(told, brute_led_down(hues, row, rule))
                    self.assertIs(self.asked(is_settled, hues, row, rule), len(told) == 1)
                    longest = max(longest, len(told))
        self.assertGreater(longest, 10)

    def test_each_row_has_as_many_fewer_as_its_change_tells(self):
        for hues in (2, 3):
            for row in itertools.chain(rows(hues, 4), long_rows(hues)):
                for rule in RULES:
                    told = led_down(hues, row, rule)
                    for before, after in zip(told, told[1:]):
                        self.check_change(hues, before, after, rule)
                    self.assertIs(is_settled(hues, told[-1], rule), True)

    def check_change(self, hues, before, after, rule):
        numbers = [x + 1 for x in range(len(before)) if before[x] != after[x]]
        self.assertEqual(len(numbers), 1)
        more = change(hues, before, rule, numbers[0], after[numbers[0] - 1])
        self.assertLess(more, 0)
        self.assertEqual(len(clashes(hues, after, rule)) - len(clashes(hues, before, rule)), more)
        self.assertIs(is_settled(hues, before, rule), False)

    def test_lists_are_the_askers_own(self):
        for row in ((), (0,), (0, 0, 0, 0), FAR, (0,) * 30):
            for rule in RULES:
                self.owned(led_down, 2, row, rule)


class Refused(Case):
    """Point 5: each refusal, and which goes first."""

    def test_no_hues(self):
        for wrong in NO_HUES:
            self.refused(NoHues, change, wrong, (0,), "any", 1, 0)
            self.refused(NoHues, change, wrong, [0], "some", 0, -1)
            for call in (is_settled, led_down):
                self.refused(NoHues, call, wrong, (0,), "any")
                self.refused(NoHues, call, wrong, [0], "some")

    def test_no_row(self):
        for wrong in NO_ROW:
            for hues in (1, 2, 3):
                self.refused(NoRow, change, hues, wrong, "any", 1, 0)
                self.refused(NoRow, change, hues, wrong, None, 0, -1)
                for call in (is_settled, led_down):
                    self.refused(NoRow, call, hues, wrong, "any")
                    self.refused(NoRow, call, hues, wrong, None)
        self.refused(NoRow, change, 2, (0, 2), "any", 1, 0)
        self.refused(NoRow, led_down, 1, (1,), "any")

    def test_no_rule(self):
        for wrong in NO_RULE:
            self.refused(NoRule, change, 2, (0, 1), wrong, 1, 0)
            self.refused(NoRule, change, 2, (0, 1), wrong, 3, 2)
            for row in ((), (0, 1), (0,) * 30):
                for call in (is_settled, led_down):
                    self.refused(NoRule, call, 2, row, wrong)

    def test_no_number(self):
        for rule in RULES:
            for wrong in [0, 4, "any", (), (1,), [1], "1"] + ODD:
                self.refused(NoNumber, change, 2, (0, 1, 0), rule, wrong, 1)
                self.refused(NoNumber, change, 2, (0, 1, 0), rule, wrong, 2)
            for number in (0, 1):
                self.refused(NoNumber, change, 2, (), rule, number, 0)
            for number in (0, 31):
                self.refused(NoNumber, change, 1, (0,) * 30, rule, number, 0)

    def test_no_hue(self):
        for rule in RULES:
            for wrong in [3, "a", (), (1,), [1], "any"] + ODD:
                for hues in (1, 2, 3):
                    self.refused(NoHue, change, hues, (0, 0, 0), rule, 2, wrong)
            self.refused(NoHue, change, 1, (0,), rule, 1, 1)
            self.refused(NoHue, change, 2, (0,), rule, 1, 2)


if __name__ == "__main__":
    unittest.main()
