import functools
import inspect
import itertools
import unittest

from sumhues import lots as module
from sumhues.errors import NoNumber, NoRule, TooMany
from sumhues.lots import free_many, full_free, hues_needed, is_free, most_free
from tests.helper import NO_N, NO_RULE, ODD, RULES, Case, brute_clean_rows

OF_N = (free_many, most_free, full_free, hues_needed)
MANY = {
    "any": (1, 2, 3, 6, 9, 16, 24, 42, 61, 108, 151, 253, 369, 607, 847),
    "unlike": (1, 2, 4, 7, 13, 22, 37, 61, 102, 162, 261, 410, 646, 1001, 1553),
}
NEEDED = {
    "any": (1, 1, 2, 2, 2, 3, 3, 3, 3, 3, 3, 3, 3, 3, None),
    "unlike": (1, 1, 1, 2, 2, 2, 2, 2, 2),
}


def all_lots(n):
    for many in range(n + 1):
        yield from itertools.combinations(range(1, n + 1), many)


def has_sum(lot, rule):
    pairs = itertools.combinations_with_replacement(lot, 2) if rule == "any" else itertools.combinations(lot, 2)
    return any(a + b in lot for a, b in pairs)


@functools.cache
def brute_free(n, rule):
    return sorted(lot for lot in all_lots(n) if not has_sum(lot, rule))


def brute_full(n, rule):
    free = set(brute_free(n, rule))
    smaller = {tuple(x for x in lot if x != out) for lot in free for out in lot}
    return sorted(free - smaller)


class Interface(unittest.TestCase):

    def test_arguments_stand_as_listed(self):
        self.assertEqual(list(inspect.signature(is_free).parameters), ["n", "rule", "thing"])
        for call in OF_N:
            with self.subTest(name=call.__name__):
                self.assertIs(getattr(module, call.__name__), call)
                self.assertEqual(list(inspect.signature(call).parameters), ["n", "rule"])


class IsFree(Case):
    """Point 81: whether a thing is a free lot."""

    def test_few(self):
        self.assertIs(is_free(4, "any", (1, 3)), True)
        self.assertIs(is_free(4, "any", (1, 3, 4)), False)
        self.assertIs(is_free(4, "any", (1, 2)), False)
        self.assertIs(is_free(4, "unlike", (1, 2)), True)
        self.assertIs(is_free(4, "unlike", (1, 2, 4)), True)
        self.assertIs(is_free(4, "any", (2, 4)), False)
        self.assertIs(is_free(4, "unlike", (1, 2, 3)), False)

    def test_no_numbers(self):
        for rule in RULES:
            for n in range(15):
                self.assertIs(is_free(n, rule, ()), True)
            self.assertIs(is_free(0, rule, (1,)), False)
            self.assertIs(is_free(0, rule, (0,)), False)
            self.assertIs(is_free(1, rule, (1,)), True)

    def test_numbers_beyond_n(self):
        for rule in RULES:
            for n in range(15):
                for lot in ((n + 1,), (1, n + 1), (0,), (0, n), (-1,), (10 ** 39,)):
                    self.assertIs(is_free(n, rule, lot), False)
                if n > 0:
                    self.assertIs(is_free(n, rule, (n,)), True)

    def test_all_lots(self):
        for rule in RULES:
            for n in range(8):
                for lot in all_lots(n):
                    self.assertIs(self.asked(is_free, n, rule, lot), not has_sum(lot, rule))
            free = set(brute_free(14, rule))
            for lot in list(all_lots(14))[::11]:
                self.assertIs(is_free(14, rule, lot), lot in free)

    def test_anything_else(self):
        wrong = [
            0, 1, 3, "any", "1", "13", [1, 3], [], [()], ([1, 3],), ((1, 3),), ((1,), (3,)), (1, (3,)), {1: 3}, {},
            (3, 1), (1, 1), (1, 3, 3), (5, 1, 3), (True,), (True, 3), (1, True), (False,), (1, None), (None,), ("1",),
            (1, "3"), (1, [3]), ("1", "3"), (1, {}), (1,) * 9000, tuple(range(1, 9000)), (5, "", 3), b"\x01",
        ]
        for thing in wrong + ODD:
            for rule in RULES:
                with self.subTest(thing=repr(thing)[:80]):
                    self.assertIs(self.asked(is_free, 14, rule, thing), False)


class Told(Case):
    """Point 81: how many, those of the most numbers, the full ones."""

    def test_few(self):
        self.same(free_many(3, "any"), 6)
        self.same(most_free(3, "any"), [(1, 3), (2, 3)])
        self.same(full_free(3, "any"), [(1, 3), (2, 3)])
        self.same(full_free(4, "any"), [(1, 3), (1, 4), (2, 3), (3, 4)])
        self.same(free_many(3, "unlike"), 7)
        self.same(most_free(3, "unlike"), [(1, 2), (1, 3), (2, 3)])
        self.same(most_free(4, "unlike"), [(1, 2, 4), (2, 3, 4)])
        self.same(full_free(4, "unlike"), [(1, 2, 4), (1, 3), (2, 3, 4)])

    def test_no_numbers_and_one(self):
        for rule in RULES:
            self.same(free_many(0, rule), 1)
            self.same(most_free(0, rule), [()])
            self.same(full_free(0, rule), [()])
            self.same(free_many(1, rule), 2)
            self.same(most_free(1, rule), [(1,)])
            self.same(full_free(1, rule), [(1,)])

    def test_fourteen(self):
        self.same(most_free(14, "any"), [(1, 3, 5, 7, 9, 11, 13), tuple(range(7, 14)), tuple(range(8, 15))])
        self.same(most_free(14, "unlike"), [tuple(range(7, 15))])

    def test_by_brute_force(self):
        for rule in RULES:
            for n in range(15):
                free = brute_free(n, rule)
                self.same(self.asked(free_many, n, rule), len(free))
                self.same(len(free), MANY[rule][n])
                most = max(len(lot) for lot in free)
                self.same(self.asked(most_free, n, rule), [lot for lot in free if len(lot) == most])
                self.same(self.asked(full_free, n, rule), brute_full(n, rule))

    def test_lists_are_the_askers_own(self):
        for rule in RULES:
            for n in (0, 1, 4, 14):
                self.owned(most_free, n, rule)
                self.owned(full_free, n, rule)


class Needed(Case):
    """Point 82."""

    def test_by_any(self):
        for n in range(15):
            self.same(self.asked(hues_needed, n, "any"), NEEDED["any"][n])

    def test_by_unlike_up_to_eight(self):
        for n in range(9):
            self.same(self.asked(hues_needed, n, "unlike"), NEEDED["unlike"][n])

    def test_by_unlike_beyond_eight_two_are_too_few(self):
        for n in range(9, 15):
            self.refused(TooMany, hues_needed, n, "unlike")

    def test_by_brute_force(self):
        for rule in RULES:
            for n, due in enumerate(NEEDED[rule]):
                enough = [hues for hues in (1, 2, 3) if (hues, rule) != (3, "unlike") and brute_clean_rows(hues, n, rule)]
                self.same(min(enough, default=None), due)


class Refused(Case):
    """Point 5: each refusal, and which goes first."""

    def test_no_number(self):
        for wrong in [15, 16, 30] + NO_N:
            for rule in ("any", "unlike", "some", None):
                for call in OF_N:
                    self.refused(NoNumber, call, wrong, rule)
                for thing in ((), (1,), None):
                    self.refused(NoNumber, is_free, wrong, rule, thing)

    def test_no_rule(self):
        for wrong in NO_RULE:
            for n in (0, 5, 9, 14):
                for call in OF_N:
                    self.refused(NoRule, call, n, wrong)
                for thing in ((), (1,), None, [2]):
                    self.refused(NoRule, is_free, n, wrong, thing)


if __name__ == "__main__":
    unittest.main()
