import inspect
import itertools
import math
import unittest

from sumhues import making as module
from sumhues.clashes import clashes, is_clean
from sumhues.errors import NoHues, NoNumber, NoRow, NoRule, TooMany
from sumhues.making import is_mirrored, is_round, laid, led_round, mirrored, round_clashes, spread
from tests.helper import NO_HUES, NO_ROW, NO_RULE, ODD, RULES, Case, brute_clashes, long_rows, rows

# Clean by `any`, and of as many numbers as clean rows of two hues can have.
FAR = (0, 1, 1, 0)
FAR_OF_THREE = (0, 1, 1, 0, 2, 2, 0, 2, 2, 0, 1, 1, 0)


def many_rows(hues):
    yield from rows(hues, {1: 30, 2: 8, 3: 5}[hues])
    yield from long_rows(hues)


def brute_laid(one, row, more):
    width = 2 * len(row) + 1
    told = []
    for x in range(1, len(row) + len(more) * width + 1):
        rest = x - max(k for k in range(0, x + 1, width))
        if rest in range(1, len(row) + 1):
            told.append(row[rest - 1])
        else:
            q = min(q for q in range(x + 1) if q * width >= x)
            told.append(one + more[q - 1])
    return tuple(told)


def brute_round_clashes(row, rule):
    n = len(row)
    found = []
    for a, b, c in itertools.product(range(1, n + 1), repeat=3):
        if (a < b or (rule == "any" and a == b)) and a + b in (c, c + n + 1):
            if row[a - 1] == row[b - 1] == row[c - 1]:
                found.append((a, b, c))
    return found


class Interface(unittest.TestCase):

    def test_arguments_stand_as_listed(self):
        listed = {
            "laid": ["one", "row", "other", "more"], "is_mirrored": ["hues", "row"], "mirrored": ["hues", "row"],
            "round_clashes": ["hues", "row", "rule"], "is_round": ["hues", "row", "rule"],
            "led_round": ["hues", "row", "by"], "spread": ["hues", "row", "times"],
        }
        for name, due in listed.items():
            with self.subTest(name=name):
                self.assertEqual(list(inspect.signature(getattr(module, name)).parameters), due)


class Laid(Case):
    """Point 61."""

    def test_few(self):
        self.same(laid(1, (0,), 1, (0,)), (0, 1, 1, 0))
        self.same(laid(1, (0,), 2, FAR), FAR_OF_THREE)
        self.same(laid(2, FAR, 1, (0,)), FAR + (2,) * 5 + FAR)
        self.same(laid(1, (0, 0), 2, (1, 0)), (0, 0, 2, 2, 2, 0, 0, 1, 1, 1, 0, 0))
        self.same(laid(2, (1,), 1, (0, 0)), (1, 2, 2, 1, 2, 2, 1))

    def test_one_or_both_without_numbers(self):
        for row in ((), (0,), (1, 0), FAR, (1,) * 30):
            self.same(laid(2, row, 1, ()), row)
            self.same(laid(1, (), 2, row), tuple(hue + 1 for hue in row))
        for one, other in ((1, 1), (1, 2), (2, 1)):
            self.same(laid(one, (), other, ()), ())

    def test_as_many_as_are_let_of_some_rows_and_one_number_more(self):
        for n, m in ((0, 30), (1, 9), (2, 5), (3, 3), (9, 1), (30, 0), (29, 0)):
            many = n + m * (2 * n + 1)
            self.assertLessEqual(many, 30)
            for one, other in ((1, 1), (1, 2), (2, 1)):
                told = laid(one, (one - 1,) * n, other, (other - 1,) * m)
                self.same(told, brute_laid(one, (one - 1,) * n, (other - 1,) * m))
                self.same(len(told), many)
        for n, m in ((1, 10), (2, 6), (3, 4), (10, 1), (30, 1), (30, 30), (1, 30)):
            self.assertGreater(n + m * (2 * n + 1), 30)
            self.refused(TooMany, laid, 1, (0,) * n, 1, (0,) * m)
            self.refused(TooMany, laid, 1, (0,) * n, 2, (1,) * m)

    def test_what_comes_to_just_thirty_and_to_thirty_one(self):
        due = {30: [], 31: []}
        for n, m in itertools.product(range(31), repeat=2):
            many = n + m * (2 * n + 1)
            if many in due:
                due[many].append((n, m))
        self.assertEqual(due, {30: [(0, 30), (30, 0)], 31: [(1, 10), (3, 4), (4, 3), (10, 1)]})
        for n, m in due[30]:
            self.same(len(laid(2, (1,) * n, 1, (0,) * m)), 30)
        for n, m in due[31]:
            self.refused(TooMany, laid, 2, (1,) * n, 1, (0,) * m)

    def test_three_hues_and_four(self):
        for one, other in ((1, 3), (2, 2), (3, 1), (2, 3), (3, 2), (3, 3)):
            for row, more in (((), ()), ((0,), ()), ((), (0,)), ((0,), (0,)), ((0,) * 30, (0,) * 30)):
                self.refused(TooMany, laid, one, row, other, more)

    def test_by_brute_force_and_clean_just_where_both_are(self):
        seen = set()
        for one, other in ((1, 1), (1, 2), (2, 1)):
            for row in rows(one, 4):
                for more in rows(other, 4):
                    if len(row) + len(more) * (2 * len(row) + 1) > 30:
                        continue
                    told = self.asked(laid, one, row, other, more)
                    self.same(told, brute_laid(one, row, more))
                    both = is_clean(one, row, "any") and is_clean(other, more, "any")
                    self.assertIs(is_clean(one + other, told, "any"), both)
                    seen.add(both)
        self.assertEqual(seen, {True, False})

    def test_refused_from_the_left_on(self):
        for wrong in NO_HUES:
            self.refused(NoHues, laid, wrong, (0,), 1, (0,))
            self.refused(NoHues, laid, wrong, [0], wrong, [0])
            self.refused(NoHues, laid, wrong, (0,) * 30, 3, (0,) * 30)
            self.refused(NoHues, laid, 1, (0,), wrong, (0,))
            self.refused(NoHues, laid, 3, (0,) * 30, wrong, [0])
            self.refused(NoRow, laid, 1, (1,), wrong, (0,))
        for wrong in NO_ROW:
            for hues in (1, 2, 3):
                self.refused(NoRow, laid, hues, wrong, 1, (0,))
                self.refused(NoRow, laid, hues, wrong, 4, None)
                self.refused(NoRow, laid, hues, wrong, 3, (0,) * 30)
                self.refused(NoRow, laid, 1, (0,), hues, wrong)
                self.refused(NoRow, laid, 3, (0,) * 30, hues, wrong)
        self.refused(NoRow, laid, 1, (1,), 2, (1,))
        self.refused(NoRow, laid, 2, (1,), 1, (1,))
        self.refused(NoRow, laid, 2, (2,), 1, (0,))


class Mirrored(Case):
    """Point 62."""

    def test_few(self):
        self.same(mirrored(2, (0, 0, 1)), (1, 0, 0))
        self.same(mirrored(3, (2, 1, 0, 0)), (0, 0, 1, 2))
        self.assertIs(is_mirrored(2, (0, 0, 1)), False)
        self.assertIs(is_mirrored(2, FAR), True)
        self.assertIs(is_mirrored(2, (0, 1, 0)), True)
        self.assertIs(is_mirrored(2, (0, 1)), False)

    def test_no_numbers_one_number_and_one_hue(self):
        for hues in (1, 2, 3):
            for row in ((), (0,), (hues - 1,), (0,) * 30):
                self.same(mirrored(hues, row), row)
                self.assertIs(is_mirrored(hues, row), True)

    def test_by_brute_force(self):
        for hues in (1, 2, 3):
            for row in many_rows(hues):
                due = tuple(row[len(row) - x] for x in range(1, len(row) + 1))
                self.same(self.asked(mirrored, hues, row), due)
                self.assertIs(self.asked(is_mirrored, hues, row), due == row)

    def test_refused(self):
        for call in (mirrored, is_mirrored):
            for wrong in NO_HUES:
                self.refused(NoHues, call, wrong, (0,))
                self.refused(NoHues, call, wrong, [0])
            for wrong in NO_ROW:
                for hues in (1, 2, 3):
                    self.refused(NoRow, call, hues, wrong)
            self.refused(NoRow, call, 1, (0, 1, 0))


class Round(Case):
    """Point 63."""

    def test_few(self):
        self.same(round_clashes(1, (0, 0), "any"), [(1, 1, 2), (2, 2, 1)])
        self.same(round_clashes(1, (0, 0), "unlike"), [])
        self.same(round_clashes(1, (0,) * 3, "any"), [(1, 1, 2), (1, 2, 3), (2, 3, 1), (3, 3, 2)])
        self.same(round_clashes(1, (0,) * 3, "unlike"), [(1, 2, 3), (2, 3, 1)])
        self.same(round_clashes(2, (0, 1, 1), "any"), [(3, 3, 2)])
        self.same(round_clashes(2, (0, 1, 1), "unlike"), [])
        self.assertIs(is_round(2, (0, 1, 1), "any"), False)
        self.assertIs(is_round(2, (0, 1, 1), "unlike"), True)
        self.assertIs(is_round(2, FAR, "any"), True)
        self.assertIs(is_round(3, FAR_OF_THREE, "any"), True)

    def test_no_numbers_and_one(self):
        for hues in (1, 2, 3):
            for rule in RULES:
                for row in ((), (0,), (hues - 1,)):
                    self.same(round_clashes(hues, row, rule), [])
                    self.assertIs(is_round(hues, row, rule), True)

    def test_thirty_in_one_hue(self):
        # Each pair has its c but those that come to just 31, which are fifteen, none of them of one number twice.
        for rule, pairs in (("any", 465), ("unlike", 435)):
            self.same(len(round_clashes(3, (2,) * 30, rule)), pairs - 15)

    def test_by_brute_force_and_each_clash_is_one(self):
        for hues in (1, 2, 3):
            for row in rows(hues, {1: 9, 2: 8, 3: 5}[hues]):
                for rule in RULES:
                    self.check_round(hues, row, rule)
            for row in long_rows(hues):
                for rule in RULES:
                    self.check_round(hues, row, rule)

    def check_round(self, hues, row, rule):
        due = brute_round_clashes(row, rule)
        told = self.asked(round_clashes, hues, row, rule)
        self.same(told, due)
        self.assertEqual(told, sorted(told))
        self.assertIs(self.asked(is_round, hues, row, rule), due == [])
        self.assertLessEqual(set(clashes(hues, row, rule)), set(told))

    def test_lists_are_the_askers_own(self):
        for row in ((), (0, 0, 0), FAR):
            for rule in RULES:
                self.owned(round_clashes, 2, row, rule)

    def test_refused(self):
        for call in (round_clashes, is_round):
            for wrong in NO_HUES:
                self.refused(NoHues, call, wrong, (0,), "any")
                self.refused(NoHues, call, wrong, [0], "some")
            for wrong in NO_ROW:
                for hues in (1, 2, 3):
                    self.refused(NoRow, call, hues, wrong, "any")
                    self.refused(NoRow, call, hues, wrong, None)
            self.refused(NoRow, call, 2, (0, 2), "unlike")
            for wrong in NO_RULE:
                for row in ((), (0, 1), (0,) * 30):
                    self.refused(NoRule, call, 2, row, wrong)


class LedRound(Case):
    """Point 64: rows led round."""

    def test_few(self):
        self.same(led_round(3, (0, 1, 2, 0), 1), (0, 1, 2, 0))
        self.same(led_round(3, (0, 1, 2, 0), 2), (1, 0, 0, 2))
        self.same(led_round(3, (0, 1, 2, 0), 3), (2, 0, 0, 1))
        self.same(led_round(3, (0, 1, 2, 0), 4), (0, 2, 1, 0))
        self.same(led_round(2, (1,), 1), (1,))
        self.same(led_round(3, (0, 1, 2, 2, 2), 5), (2, 2, 2, 1, 0))

    def test_thirty_numbers(self):
        for hues in (1, 2, 3):
            for row in long_rows(hues):
                for by in (1, 2, 15, 29, 30):
                    self.same(led_round(hues, row, by), tuple(row[x * by % 31 - 1] for x in range(1, 31)))
                self.refused(NoNumber, led_round, hues, row, 31)

    def test_by_brute_force_with_as_many_round_clashes(self):
        for hues in (1, 2, 3):
            for row in itertools.chain(rows(hues, {1: 8, 2: 7, 3: 4}[hues]), long_rows(hues)):
                for by in range(1, len(row) + 1):
                    self.check_led(hues, row, by)

    def check_led(self, hues, row, by):
        turn = len(row) + 1
        if math.gcd(by, turn) > 1:
            self.refused(NoNumber, led_round, hues, row, by)
            return
        told = self.asked(led_round, hues, row, by)
        self.same(told, tuple(row[x * by % turn - 1] for x in range(1, turn)))
        for rule in RULES:
            self.assertEqual(len(round_clashes(hues, told, rule)), len(round_clashes(hues, row, rule)))

    def test_a_common_divisor(self):
        for n, wrong in ((3, (2,)), (5, (2, 3, 4)), (8, (3, 6)), (29, (2, 3, 5, 6, 10, 15, 25, 28))):
            for by in wrong:
                self.refused(NoNumber, led_round, 1, (0,) * n, by)
        for n, let in ((3, (1, 3)), (5, (1, 5)), (8, (1, 2, 4, 5, 7, 8)), (29, (1, 7, 11, 13, 17, 19, 23, 29))):
            for by in let:
                self.same(led_round(1, (0,) * n, by), (0,) * n)

    def test_of_no_numbers_always_refused(self):
        for by in (-1, 0, 1, 2, 30, True, None):
            for hues in (1, 2, 3):
                self.refused(NoNumber, led_round, hues, (), by)

    def test_refused(self):
        for wrong in NO_HUES:
            self.refused(NoHues, led_round, wrong, (0,), 1)
            self.refused(NoHues, led_round, wrong, [0], 0)
        for wrong in NO_ROW:
            for hues in (1, 2, 3):
                self.refused(NoRow, led_round, hues, wrong, 1)
                self.refused(NoRow, led_round, hues, wrong, None)
        self.refused(NoRow, led_round, 2, (0, 2), 1)
        for by in [0, 5, 6, "1", (), (1,), [1], "any"] + ODD:
            self.refused(NoNumber, led_round, 2, FAR, by)


class Spread(Case):
    """Point 64: rows spread."""

    def test_few(self):
        self.same(spread(2, (0, 1), 0), (0, 1))
        self.same(spread(2, (0, 1), 1), (0, 1, None, 0, 1))
        self.same(spread(2, (1,), 3), (1, None, 1, None, 1, None, 1))
        self.same(spread(2, FAR, 2), FAR + (None,) + FAR + (None,) + FAR)

    def test_no_numbers(self):
        for hues in (1, 2, 3):
            for times in range(30):
                self.same(spread(hues, (), times), (None,) * times)

    def test_up_to_thirty_numbers_and_beyond(self):
        for n in range(31):
            for times in range(30):
                many = times * (n + 1) + n
                if many > 30:
                    self.refused(TooMany, spread, 3, (2,) * n, times)
                    continue
                due = tuple(None if x % (n + 1) == 0 else 2 for x in range(1, many + 1))
                self.same(spread(3, (2,) * n, times), due)
        # Just thirty numbers come of thirty alone, as 31 has no divisors; 29 and 31 of others, too.
        self.same(spread(1, (0,) * 30, 0), (0,) * 30)
        self.same(len(spread(1, (0,), 14)), 29)
        self.same(len(spread(1, (0,) * 14, 1)), 29)
        for row, times in (((0,), 15), ((0,) * 15, 1), ((0,) * 30, 1), ((0,) * 30, 29), ((0, 0, 0), 7)):
            self.refused(TooMany, spread, 1, row, times)

    def test_by_brute_force(self):
        for hues in (1, 2, 3):
            for row in rows(hues, 4):
                for times in (0, 1, 2, 5):
                    turn = len(row) + 1
                    rests = [x % turn for x in range(1, times * turn + turn)]
                    due = tuple(None if rest == 0 else row[rest - 1] for rest in rests)
                    self.same(self.asked(spread, hues, row, times), due)

    def test_of_a_round_row_it_is_clean_by_both_rules(self):
        found = 0
        for hues in (1, 2, 3):
            for row in many_rows(hues):
                if not is_round(hues, row, "any"):
                    continue
                for times in range(30 // (len(row) + 1)):
                    told = spread(hues, row, times)
                    for rule in RULES:
                        self.same(brute_clashes(told, rule), [])
                        self.assertIs(is_clean(hues, told, rule), True)
                    found += 1
        self.assertGreater(found, 100)

    def test_refused(self):
        for wrong in NO_HUES:
            self.refused(NoHues, spread, wrong, (0,), 1)
            self.refused(NoHues, spread, wrong, [0], -1)
        for wrong in NO_ROW:
            for hues in (1, 2, 3):
                self.refused(NoRow, spread, hues, wrong, 1)
                self.refused(NoRow, spread, hues, wrong, 30)
        self.refused(NoRow, spread, 1, (0, 1), 29)
        for times in [30, "1", (), (1,), [1], "any"] + ODD:
            for row in ((), (0, 1), (0,) * 30):
                self.refused(NoNumber, spread, 2, row, times)


if __name__ == "__main__":
    unittest.main()
