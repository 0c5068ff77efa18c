import inspect
import unittest

from sumhues import forced as module
from sumhues.errors import NoHues, NoNumber, NoRow, NoRule, NoStep
from sumhues.forced import are_steps, barred, led, run
from tests.helper import (
    ODD, RULES, Case, bare, brute_barred, brute_clashes, brute_forced, brute_shut, halves, having, long_halves,
)

# Two hues by `any`: the run takes 2, 4, 3 and shuts 5; 5 may go ahead of 3 as well, and 3 is shut then.
OPEN = (0, None, None, None, None)
RUN_STEPS = ((2, 1), (4, 0), (3, 1))
OTHER_STEPS = ((2, 1), (4, 0), (5, 1))


def many_halves(hues):
    yield from halves(hues, 5 if hues < 3 else 4)
    yield from long_halves(hues)
    # Longer ones with few hues, in which the steps lead far.
    for first in halves(hues, 2):
        yield first + (None,) * 7
        yield (None,) * 4 + first + (None,) * 3


def brute_run(hues, half, rule):
    steps = []
    while True:
        shut = brute_shut(hues, half, rule)
        forced = brute_forced(hues, half, rule)
        taken = min(shut + [number for number, hue in forced], default=None)
        if taken is None or taken in shut:
            return (half, tuple(steps), taken)
        steps += [step for step in forced if step[0] == taken]
        half = having(half, *steps[-1])


def brute_led(hues, half, rule, steps):
    for step in steps:
        if step not in brute_forced(hues, half, rule):
            return None
        half = having(half, *step)
    return half


def brute_ends(hues, half, rule):
    """All half rows to which forced steps lead that go on as long as they can."""
    forced = brute_forced(hues, half, rule)
    if not forced:
        return {half}
    return {end for step in forced for end in brute_ends(hues, having(half, *step), rule)}


class Interface(unittest.TestCase):

    def test_arguments_stand_as_listed(self):
        listed = {
            "barred": ["hues", "half", "rule", "number"], "are_steps": ["hues", "half", "rule", "thing"],
            "led": ["hues", "half", "rule", "steps"], "run": ["hues", "half", "rule"],
        }
        for name, due in listed.items():
            with self.subTest(name=name):
                self.assertEqual(list(inspect.signature(getattr(module, name)).parameters), due)


class Barred(Case):
    """Point 31."""

    def test_few(self):
        self.same(barred(2, (0, None), "any", 2), (0,))
        self.same(barred(2, (0, None), "unlike", 2), ())
        self.same(barred(2, (None, 1), "any", 1), (1,))
        self.same(barred(2, (None, 1), "unlike", 1), ())
        self.same(barred(2, (1, None, 1), "unlike", 2), (1,))
        self.same(barred(2, (None, 1, 1), "unlike", 1), (1,))
        self.same(barred(2, (1, 1, None), "unlike", 3), (1,))
        self.same(barred(2, (0, 1, 1, 0, None), "any", 5), (0, 1))
        self.same(barred(3, (0, 1, 1, 0, None), "any", 5), (0, 1))
        self.same(barred(3, (2, 1, None, 2, 1), "any", 3), (1, 2))

    def test_one_number_alone(self):
        for hues in (1, 2, 3):
            for rule in RULES:
                self.same(barred(hues, (None,), rule, 1), ())

    def test_all_without_a_hue(self):
        for hues in (1, 2, 3):
            for rule in RULES:
                for number in range(1, 31):
                    self.same(barred(hues, (None,) * 30, rule, number), ())

    def test_a_clash_without_the_number_bars_nothing(self):
        half = (0, 0, 0) + (None,) * 27
        self.same(barred(2, half, "any", 30), ())
        self.same(barred(2, half, "any", 4), (0,))
        self.same(barred(2, half, "any", 7), ())

    def test_by_brute_force(self):
        for hues in (1, 2, 3):
            for half in many_halves(hues):
                for rule in RULES:
                    for number in bare(half):
                        told = self.asked(barred, hues, half, rule, number)
                        self.same(told, brute_barred(hues, half, rule, number))


class Steps(Case):
    """Point 32."""

    def test_the_runs_order_and_another(self):
        for steps, end in ((RUN_STEPS, (0, 1, 1, 0, None)), (OTHER_STEPS, (0, 1, None, 0, 1))):
            for many in range(4):
                self.assertIs(self.asked(are_steps, 2, OPEN, "any", steps[:many]), True)
            self.same(self.asked(led, 2, OPEN, "any", steps), end)
        self.same(led(2, OPEN, "any", RUN_STEPS[:2]), (0, 1, None, 0, None))

    def test_a_step_too_early_or_again_or_with_another_hue(self):
        wrong = [
            ((4, 0),), ((2, 1), (3, 1)), ((2, 1), (3, 1), (4, 0)), ((4, 0), (2, 1), (3, 1)),
            ((2, 0),), ((2, 1), (2, 1)), ((2, 1), (4, 0), (4, 0)), ((2, 1), (4, 1)), ((1, 0),), ((1, 1),),
            RUN_STEPS + ((5, 0),), RUN_STEPS + ((5, 1),), OTHER_STEPS + ((3, 1),), RUN_STEPS + ((6, 0),),
            ((0, 1),), ((6, 1),), ((-3, 1),), ((2, 2),), ((2, -1),), ((2, 10 ** 39),), ((10 ** 39, 1),),
        ]
        for thing in wrong:
            self.assertIs(self.asked(are_steps, 2, OPEN, "any", thing), False)
            self.refused(NoStep, led, 2, OPEN, "any", thing)
        for thing in (RUN_STEPS, RUN_STEPS[:1]):
            self.assertIs(are_steps(2, OPEN, "unlike", thing), False)
            self.assertIs(are_steps(3, OPEN, "any", thing), False)

    def test_things_of_other_kinds(self):
        wrong = [
            None, True, 0, 2, "", "any", [], [(2, 1)], ([2, 1],), [[2, 1]],
            (2, 1), ((2,),), ((2, 1, 0),), ((),), (((2, 1),),), ((2, True),), ((2, None),), ((2, "1"),), (("2", 1),),
            (((2,), 1),), ((2, (1,)),), ((2, 1), None), ((2, 1), ()), ((2, 1), [4, 0]), ((2, 1), (4, False)),
            ((None, 1),), ((2, []),), (([], {}),), {}, {(2, 1): True}, {2: 1}, ({2: 1},), ("21",), "21",
            ((2, 1),) * 3000,
        ]
        for thing in wrong + ODD:
            with self.subTest(thing=repr(thing)[:80]):
                self.assertIs(self.asked(are_steps, 2, OPEN, "any", thing), False)
                self.refused(NoStep, led, 2, OPEN, "any", thing)

    def test_truths_are_no_numbers(self):
        half = (None, 1)
        self.assertIs(are_steps(2, half, "any", ((1, 0),)), True)
        for thing in (((True, 0),), ((1, False),), ((True, False),)):
            self.assertIs(are_steps(2, half, "any", thing), False)
            self.refused(NoStep, led, 2, half, "any", thing)

    def test_no_steps_and_no_numbers(self):
        for hues in (1, 2, 3):
            for rule in RULES:
                for half in ((), (0,), (None,), (None,) * 30, (0,) * 30):
                    self.assertIs(are_steps(hues, half, rule, ()), True)
                    self.same(led(hues, half, rule, ()), half)
                self.assertIs(are_steps(hues, (), rule, ((1, 0),)), False)
                self.refused(NoStep, led, hues, (), rule, ((1, 0),))

    def test_of_one_hue_each_number_is_forced_as_long_as_it_is_not_barred(self):
        for steps in (((1, 0),), ((2, 0),), ((3, 0), (1, 0)), ((2, 0), (3, 0), (5, 0))):
            due = steps[:2] == ((2, 0), (3, 0))
            self.assertIs(are_steps(1, (None,) * 5, "any", steps), not due)
        self.same(led(1, (None,) * 5, "any", ((3, 0), (1, 0))), (0, None, 0, None, None))
        self.assertIs(are_steps(1, (None, None), "any", ((1, 0), (2, 0))), False)
        self.assertIs(are_steps(1, (None, None), "unlike", ((1, 0), (2, 0))), True)
        self.assertIs(are_steps(1, (None,) * 3, "unlike", ((1, 0), (2, 0), (3, 0))), False)

    def test_a_half_row_that_has_a_clash_has_steps_too(self):
        half = (0, 0, 0, None, 1)
        self.same(brute_clashes(half, "any")[:1], [(1, 1, 2)])
        self.same(led(2, half, "any", ((4, 1),)), (0, 0, 0, 1, 1))

    def test_by_brute_force(self):
        for hues in (1, 2, 3):
            for half in many_halves(hues):
                for rule in RULES:
                    self.check_steps(hues, half, rule)

    def check_steps(self, hues, half, rule):
        forced = brute_forced(hues, half, rule)
        for number in range(0, min(len(half), 9) + 2):
            for hue in range(hues + 1):
                step = (number, hue)
                self.assertIs(are_steps(hues, half, rule, (step,)), step in forced)
        for one in forced:
            self.same(self.asked(led, hues, half, rule, (one,)), having(half, *one))
        # A few of each end: with one hue all of thirty numbers may be forced.
        few = forced[:4] + forced[4:][-2:]
        for one in few:
            for other in few:
                end = brute_led(hues, half, rule, (one, other))
                self.assertIs(are_steps(hues, half, rule, (one, other)), end is not None)
                if end is not None:
                    self.same(led(hues, half, rule, (one, other)), end)


class Run(Case):
    """Point 33."""

    def test_few(self):
        self.same(run(2, OPEN, "any"), ((0, 1, 1, 0, None), RUN_STEPS, 5))
        self.same(run(2, OPEN[:4], "any"), ((0, 1, 1, 0), RUN_STEPS, None))
        self.same(run(2, OPEN, "unlike"), (OPEN, (), None))
        self.same(run(3, OPEN, "any"), (OPEN, (), None))
        self.same(run(3, (0, 1, 1, 0, None), "any"), ((0, 1, 1, 0, 2), ((5, 2),), None))
        self.same(run(1, (None,) * 3, "any"), ((0, None, None), ((1, 0),), 2))
        self.same(run(1, (None,) * 3, "unlike"), ((0, 0, None), ((1, 0), (2, 0)), 3))

    def test_the_least_number_goes_first_be_it_forced_or_shut(self):
        half = (None, 0, 1, 1, 1, None)
        self.assertIs(are_steps(2, half, "any", ((6, 0),)), True)
        self.same(run(2, half, "any"), (half, (), 1))
        # 10 is shut from the first on, but 2 and 4 are less, and 5 comes to be shut.
        half = (0, None, 1, None, None, None, 1, None, 0, None)
        self.same(barred(2, half, "any", 10), (0, 1))
        self.same(run(2, half, "any"), ((0, 1, 1, 0, None, None, 1, None, 0, None), ((2, 1), (4, 0)), 5))

    def test_nothing_without_a_hue_and_no_numbers(self):
        for hues in (1, 2, 3):
            for rule in RULES:
                for half in ((), (0,), (0,) * 30, tuple(x % hues for x in range(30))):
                    self.same(run(hues, half, rule), (half, (), None))

    def test_all_without_a_hue(self):
        for rule in RULES:
            for hues in (2, 3):
                for n in (1, 2, 14, 30):
                    self.same(run(hues, (None,) * n, rule), ((None,) * n, (), None))
        self.same(run(1, (None,) * 30, "any"), ((0,) + (None,) * 29, ((1, 0),), 2))
        self.same(run(1, (None,) * 30, "unlike"), ((0, 0) + (None,) * 28, ((1, 0), (2, 0)), 3))

    def test_by_brute_force(self):
        for hues in (1, 2, 3):
            for half in many_halves(hues):
                for rule in RULES:
                    told = self.asked(run, hues, half, rule)
                    self.same(told, brute_run(hues, half, rule))
                    self.assertIs(are_steps(hues, half, rule, told[1]), True)
                    self.same(led(hues, half, rule, told[1]), told[0])

    def test_it_ends_shut_just_where_all_steps_that_go_on_come_to_a_shut_number(self):
        for hues in (1, 2, 3):
            for half in halves(hues, 5 if hues < 3 else 4):
                for rule in RULES:
                    end, steps, shut = run(hues, half, rule)
                    ends = brute_ends(hues, half, rule)
                    if shut is None:
                        self.assertEqual(ends, {end})
                        self.assertEqual(brute_shut(hues, end, rule), [])
                    else:
                        self.assertTrue(all(brute_shut(hues, other, rule) for other in ends))


class Refused(Case):
    """Point 5: each refusal, and which goes first."""

    def test_no_hues(self):
        for hues in [0, 4, (), (0,), "any"] + ODD:
            self.refused(NoHues, barred, hues, (None,), "any", 1)
            self.refused(NoHues, barred, hues, [0], "some", 0)
            self.refused(NoHues, run, hues, (None,), "any")
            self.refused(NoHues, run, hues, [0], "some")
            for call in (are_steps, led):
                self.refused(NoHues, call, hues, (None,), "any", ())
                self.refused(NoHues, call, hues, [0], "some", None)

    def test_no_row(self):
        for half in [0, 1, 2, "any", (None, True), (0, 1, 2, 3), [0, None], (None, (0,))] + ODD:
            for hues in (1, 2, 3):
                self.refused(NoRow, barred, hues, half, "any", 1)
                self.refused(NoRow, barred, hues, half, None, True)
                self.refused(NoRow, run, hues, half, "any")
                self.refused(NoRow, run, hues, half, None)
                for call in (are_steps, led):
                    self.refused(NoRow, call, hues, half, "any", ())
                    self.refused(NoRow, call, hues, half, None, None)
        self.refused(NoRow, run, 2, (None, 2), "any")
        self.refused(NoRow, barred, 1, (None, 1), "any", 1)

    def test_no_rule(self):
        for rule in [0, 1, 2, (), ("any",), ["unlike"], "UNLIKE", "like", b"any"] + ODD:
            self.refused(NoRule, barred, 2, (None, 0), rule, 1)
            self.refused(NoRule, barred, 2, (None, 0), rule, 2)
            for half in ((), (None, 0)):
                self.refused(NoRule, run, 2, half, rule)
                for call in (are_steps, led):
                    self.refused(NoRule, call, 2, half, rule, ())
                    self.refused(NoRule, call, 2, half, rule, None)

    def test_no_number(self):
        for rule in RULES:
            for number in [0, 1, 4, "any", (), (2,), [2], "2"] + ODD:
                self.refused(NoNumber, barred, 2, (0, None, None), rule, number)
            for number in (0, 1):
                self.refused(NoNumber, barred, 2, (), rule, number)
            self.refused(NoNumber, barred, 1, (None,) * 30, rule, 31)
            self.refused(NoNumber, barred, 1, (None,) * 30, rule, 0)
            self.refused(NoNumber, barred, 1, (None,), rule, True)
            for number in range(1, 31):
                self.refused(NoNumber, barred, 1, (0,) * 30, rule, number)


if __name__ == "__main__":
    unittest.main()
