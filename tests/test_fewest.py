import fractions
import inspect
import itertools
import unittest

from sumhues import fewest as module
from sumhues.errors import NoHues, NoNumber, NoRule, TooMany
from sumhues.fewest import fewest, fewest_rows, must_share
from tests.helper import NO_HUES, NO_N, NO_RULE, RULES, SUMS, Case, brute_clashes

CALLS = (fewest, fewest_rows, must_share)
# The greatest n such that the hues, taken n times by themselves, are at most 1024.
MOST = {1: 30, 2: 10, 3: 6}


def brute_counts(hues, n, rule):
    """How many clashes each row of n numbers has."""
    return {row: len(brute_clashes(row, rule)) for row in itertools.product(range(hues), repeat=n)}


class Interface(unittest.TestCase):

    def test_arguments_stand_as_listed(self):
        for call in CALLS:
            with self.subTest(name=call.__name__):
                self.assertIs(getattr(module, call.__name__), call)
                self.assertEqual(list(inspect.signature(call).parameters), ["hues", "n", "rule"])


class Told(Case):
    """Point 71."""

    def test_few(self):
        self.same(fewest(2, 4, "any"), 0)
        self.same(fewest_rows(2, 4, "any"), [(0, 1, 1, 0), (1, 0, 0, 1)])
        self.same(must_share(2, 4, "any"), (0, 1))
        self.same(fewest(2, 5, "any"), 1)
        self.same(must_share(2, 5, "any"), (1, 6))
        self.same(fewest(2, 10, "any"), 4)
        self.same(must_share(2, 10, "any"), (4, 25))
        self.same(fewest(2, 8, "unlike"), 0)
        self.same(fewest(2, 9, "unlike"), 1)
        self.same(must_share(2, 9, "unlike"), (1, 16))
        self.same(fewest_rows(1, 3, "any"), [(0, 0, 0)])

    def test_no_sums_at_all(self):
        for hues in (1, 2, 3):
            for n, rule in ((0, "any"), (1, "any"), (0, "unlike"), (1, "unlike"), (2, "unlike")):
                self.same(fewest(hues, n, rule), 0)
                self.same(fewest_rows(hues, n, rule), list(itertools.product(range(hues), repeat=n)))
                self.same(must_share(hues, n, rule), (0, 1))

    def test_one_hue_and_any_many_numbers(self):
        for n in range(31):
            for rule in RULES:
                many = len(SUMS[n, rule])
                self.same(fewest(1, n, rule), many)
                self.same(fewest_rows(1, n, rule), [(0,) * n])
                self.same(must_share(1, n, rule), (1, 1) if many else (0, 1))

    def test_by_brute_force(self):
        for hues in (2, 3):
            for n in range(MOST[hues] + 1):
                for rule in RULES:
                    self.check_fewest(hues, n, rule)

    def check_fewest(self, hues, n, rule):
        counts = brute_counts(hues, n, rule)
        least = min(counts.values())
        self.same(self.asked(fewest, hues, n, rule), least)
        told = self.asked(fewest_rows, hues, n, rule)
        self.same(told, sorted(row for row in counts if counts[row] == least))
        share = fractions.Fraction(least, len(SUMS[n, rule])) if SUMS[n, rule] else fractions.Fraction(0)
        self.same(self.asked(must_share, hues, n, rule), (share.numerator, share.denominator))

    def test_a_share_is_in_least_terms(self):
        seen = set()
        for hues in (2, 3):
            for n in range(MOST[hues] + 1):
                for rule in RULES:
                    least, many = fewest(hues, n, rule), len(SUMS[n, rule])
                    top, bottom = must_share(hues, n, rule)
                    self.assertEqual(top * many, least * bottom)
                    seen.add(0 < bottom < many and top > 0)
        self.assertEqual(seen, {True, False})

    def test_lists_are_the_askers_own(self):
        for hues, n in ((1, 0), (1, 30), (2, 0), (2, 4), (2, 10), (3, 6)):
            for rule in RULES:
                self.owned(fewest_rows, hues, n, rule)


class Refused(Case):
    """Points 5 and 71: each refusal, and which goes first."""

    def test_no_hues(self):
        for call in CALLS:
            for wrong in NO_HUES:
                self.refused(NoHues, call, wrong, 3, "any")
                self.refused(NoHues, call, wrong, 31, "some")

    def test_no_number(self):
        for call in CALLS:
            for wrong in NO_N:
                for hues in (1, 2, 3):
                    self.refused(NoNumber, call, hues, wrong, "any")
                    self.refused(NoNumber, call, hues, wrong, "some")

    def test_no_rule_goes_ahead_of_too_many(self):
        for call in CALLS:
            for wrong in NO_RULE:
                for n in (0, 3, 11, 30):
                    self.refused(NoRule, call, 2, n, wrong)
                    self.refused(NoRule, call, 3, n, wrong)

    def test_too_many(self):
        for call in CALLS:
            for rule in RULES:
                for hues, most in MOST.items():
                    call(hues, most, rule)
                for hues in (2, 3):
                    for n in range(MOST[hues] + 1, 31):
                        self.refused(TooMany, call, hues, n, rule)


if __name__ == "__main__":
    unittest.main()
