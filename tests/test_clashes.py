import inspect
import unittest

from sumhues import clashes as module
from sumhues.clashes import clash_counts, clashes, clashes_with, clean_to, first_clash, is_clean
from sumhues.errors import NoHues, NoNumber, NoRow, NoRule
from tests.helper import ODD, RULES, Case, brute_clashes, halves, long_halves

ALIKE = (clashes, is_clean, first_clash, clean_to, clash_counts)


def many_halves(hues):
    yield from halves(hues, 6 if hues < 3 else 5)
    yield from long_halves(hues)


def half_with(last, *numbers):
    """The half row up to the last number, in which it and these numbers have the hue 0."""
    return tuple(0 if x in numbers or x == last else None for x in range(1, last + 1))


class Interface(unittest.TestCase):

    def test_arguments_stand_as_listed(self):
        for call in ALIKE:
            with self.subTest(name=call.__name__):
                self.assertIs(getattr(module, call.__name__), call)
                self.assertEqual(list(inspect.signature(call).parameters), ["hues", "half", "rule"])
        self.assertEqual(list(inspect.signature(clashes_with).parameters), ["hues", "half", "rule", "number"])


class Told(Case):
    """Points 21 and 22 on half rows worked out by hand."""

    def test_all_in_one_hue(self):
        half = (0, 0, 0, 0)
        self.same(clashes(1, half, "any"), [(1, 1, 2), (1, 2, 3), (1, 3, 4), (2, 2, 4)])
        self.same(clashes(1, half, "unlike"), [(1, 2, 3), (1, 3, 4)])
        self.same(first_clash(1, half, "any"), (1, 1, 2))
        self.same(first_clash(1, half, "unlike"), (1, 2, 3))
        self.same(clean_to(1, half, "any"), 1)
        self.same(clean_to(1, half, "unlike"), 2)
        self.same(clash_counts(2, half, "any"), [4, 0])
        self.same(clashes_with(1, half, "any", 2), [(1, 1, 2), (1, 2, 3), (2, 2, 4)])
        self.same(clashes_with(1, half, "unlike", 2), [(1, 2, 3)])

    def test_the_farthest_clean_row_of_two_hues(self):
        for rule in RULES:
            self.same(clashes(2, (0, 1, 1, 0), rule), [])
            self.assertIs(is_clean(2, (0, 1, 1, 0), rule), True)
            self.same(first_clash(2, (0, 1, 1, 0), rule), None)
            self.same(clean_to(2, (0, 1, 1, 0), rule), 4)
            self.same(clash_counts(2, (0, 1, 1, 0), rule), [0, 0])
        self.same(clashes(2, (0, 1, 1, 0, 0), "any"), [(1, 4, 5)])
        self.same(clashes(2, (0, 1, 1, 0, 1), "any"), [(2, 3, 5)])
        self.assertIs(is_clean(2, (0, 1, 1, 0, 1), "any"), False)
        self.same(clash_counts(2, (0, 1, 1, 0, 1), "any"), [0, 1])

    def test_the_first_one_has_the_least_c_and_not_the_least_a(self):
        half = (0, 1, None, 1, 0, 0)
        self.same(clashes(2, half, "any"), [(1, 5, 6), (2, 2, 4)])
        self.same(first_clash(2, half, "any"), (2, 2, 4))
        self.same(clean_to(2, half, "any"), 3)
        self.same(clash_counts(3, half, "any"), [1, 1, 0])

    def test_of_one_c_the_first_one_has_the_least_a(self):
        self.same(clashes(1, half_with(6, 1, 3, 5), "any"), [(1, 5, 6), (3, 3, 6)])
        self.same(first_clash(1, half_with(6, 1, 3, 5), "any"), (1, 5, 6))
        self.same(clashes(1, half_with(11, 4, 5, 6, 7), "any"), [(4, 7, 11), (5, 6, 11)])
        self.same(first_clash(1, half_with(11, 4, 5, 6, 7), "any"), (4, 7, 11))
        self.same(clashes(1, half_with(9, 2, 3, 6, 7), "unlike"), [(2, 7, 9), (3, 6, 9)])
        self.same(first_clash(1, half_with(9, 2, 3, 6, 7), "unlike"), (2, 7, 9))
        self.same(clean_to(1, half_with(9, 2, 3, 6, 7), "unlike"), 8)

    def test_none_is_no_hue(self):
        for hues in (1, 2, 3):
            for rule in RULES:
                for n in (0, 1, 3, 30):
                    half = (None,) * n
                    self.same(clashes(hues, half, rule), [])
                    self.assertIs(is_clean(hues, half, rule), True)
                    self.same(first_clash(hues, half, rule), None)
                    self.same(clean_to(hues, half, rule), n)
                    self.same(clash_counts(hues, half, rule), [0] * hues)
        self.same(clashes(1, (None, 0, 0), "any"), [])
        self.same(clashes(1, (0, None, 0), "any"), [])
        self.same(clashes(1, (0, 0, None), "unlike"), [])

    def test_thirty_in_one_hue(self):
        for rule, many in (("any", 225), ("unlike", 210)):
            self.same(len(clashes(3, (2,) * 30, rule)), many)
            self.same(clash_counts(3, (2,) * 30, rule), [0, 0, many])


class ByBruteForce(Case):

    def test_clashes(self):
        for hues in (1, 2, 3):
            for half in many_halves(hues):
                for rule in RULES:
                    due = brute_clashes(half, rule)
                    self.same(self.asked(clashes, hues, half, rule), due)
                    self.assertIs(self.asked(is_clean, hues, half, rule), due == [])
                    first = min([(c, a, b) for a, b, c in due], default=None)
                    self.same(self.asked(first_clash, hues, half, rule), first and (first[1], first[2], first[0]))

    def test_how_far(self):
        for hues in (1, 2, 3):
            for half in many_halves(hues):
                for rule in RULES:
                    clean = [m for m in range(len(half) + 1) if brute_clashes(half[:m], rule) == []]
                    self.same(self.asked(clean_to, hues, half, rule), max(clean))

    def test_counts_and_those_of_a_number(self):
        for hues in (1, 2, 3):
            for half in many_halves(hues):
                for rule in RULES:
                    due = brute_clashes(half, rule)
                    owners = [half[a - 1] for a, b, c in due]
                    self.same(self.asked(clash_counts, hues, half, rule), [owners.count(hue) for hue in range(hues)])
                    for number in range(1, len(half) + 1):
                        told = self.asked(clashes_with, hues, half, rule, number)
                        self.same(told, [one for one in due if one.count(number) > 0])


class OwnLists(Case):
    """Point 4."""

    def test_lists_are_the_askers_own(self):
        for half in ((), (0, 0, 0, 0), (0, 1, 1, 0)):
            for rule in RULES:
                self.owned(clashes, 2, half, rule)
                self.owned(clash_counts, 2, half, rule)
        self.owned(clashes_with, 2, (0, 0, 0), "any", 1)
        self.owned(clashes_with, 2, (0, 1, 0), "any", 2)


class Refused(Case):
    """Point 5: each refusal, and which goes first."""

    def test_no_hues(self):
        for hues in [0, 4, (), (0,), "any"] + ODD:
            for call in ALIKE:
                self.refused(NoHues, call, hues, (0,), "any")
                self.refused(NoHues, call, hues, [0], "some")
            self.refused(NoHues, clashes_with, hues, (0,), "any", 1)
            self.refused(NoHues, clashes_with, hues, [0], "some", 0)

    def test_no_row(self):
        for half in [0, 1, 2, "any", (0, True), (0, 1, 2, 3), [0, 1]] + ODD:
            for hues in (1, 2, 3):
                for call in ALIKE:
                    self.refused(NoRow, call, hues, half, "any")
                    self.refused(NoRow, call, hues, half, None)
                self.refused(NoRow, clashes_with, hues, half, "any", 1)
                self.refused(NoRow, clashes_with, hues, half, None, True)
        for call in ALIKE:
            self.refused(NoRow, call, 1, (0, 1), "any")
            self.refused(NoRow, call, 2, (0, 1, 2), "any")

    def test_no_rule(self):
        for rule in [0, 1, 2, (), ("any",), ["unlike"], "UNLIKE", "like", b"any"] + ODD:
            for half in ((), (0, 1)):
                for call in ALIKE:
                    self.refused(NoRule, call, 2, half, rule)
            self.refused(NoRule, clashes_with, 2, (0, 1), rule, 1)
            self.refused(NoRule, clashes_with, 2, (0, 1), rule, 3)

    def test_no_number(self):
        for rule in RULES:
            for number in [0, 4, "any", (), (1,)] + ODD:
                self.refused(NoNumber, clashes_with, 2, (0, 1, None), rule, number)
            self.refused(NoNumber, clashes_with, 2, (), rule, 0)
            self.refused(NoNumber, clashes_with, 2, (), rule, 1)
            self.refused(NoNumber, clashes_with, 2, (0,) * 30, rule, 31)
            self.refused(NoNumber, clashes_with, 2, (0,) * 30, rule, 0)


if __name__ == "__main__":
    unittest.main()
