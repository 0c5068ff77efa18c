"""What the tests share: odd things, half rows, and what the points tell, by brute force."""

import copy
import functools
import itertools
import unittest

RULES = ("any", "unlike")


def deep(depth):
    thing = ()
    for _ in range(depth - 1):
        thing = (thing,)
    return thing


# No whole number, text, list or tuple here is let anywhere.
ODD = [
    None, True, False, -1, 31, 32, 10 ** 40 - 1, -(10 ** 40 - 1),
    "", "Any", "any ", "0", "1", "2", "a\nb\t~",
    [], [None], [0], [1], ["any"], [[]], [(), (), (), ()],
    (True,), (False,), ("0",), ((),), ([],), (-1,), (31,), (0, 0, 3), (None,) * 31, (0,) * 31, (0,) * 9000,
    {}, {0: 0}, {"any": None}, {1: [2]}, deep(60), [deep(59)],
]

NO_HUES = [0, 4, (), (0,), "any"] + ODD
NO_RULE = [0, 1, 2, (), ("any",), ["unlike"], "unlike ", "UNLIKE", "like", b"any"] + ODD
# What is a half row of no number of hues.
NO_HALF = [0, 1, 2, "any", (0, 1, 2, 3), (None, None, True), (0, False), (0, "None"), [0, None]] + ODD
# What is a row of no number of hues.
NO_ROW = [(None,), (0, None), (None, 0), (None,) * 30, (0,) * 29 + (None,)] + NO_HALF
# What is no n from 0 to 30.
NO_N = ["any", (), (0,), [30], "30"] + ODD


def halves(hues, most):
    """All half rows of so many hues with at most so many numbers."""
    things = [None] + list(range(hues))
    for n in range(most + 1):
        yield from itertools.product(things, repeat=n)


def long_halves(hues):
    """Half rows of thirty numbers with all, few and no hues."""
    yield (None,) * 30
    yield (0,) * 30
    yield (hues - 1,) * 30
    yield tuple(x % hues for x in range(30))
    yield tuple(x * x // 3 % hues for x in range(30))
    yield tuple(None if x % 4 else x // 4 % hues for x in range(30))
    yield tuple(x * 7 % 5 % hues if x * 7 % 5 < 4 else None for x in range(30))


def some_halves(hues):
    yield from halves(hues, 4)
    yield from long_halves(hues)


def rows(hues, most):
    """All rows of so many hues with at most so many numbers."""
    for n in range(most + 1):
        yield from itertools.product(range(hues), repeat=n)


def long_rows(hues):
    """Rows of thirty numbers."""
    return [half for half in long_halves(hues) if None not in half]


def brute_sums(n, rule):
    numbers = range(1, n + 1)
    return [
        (a, b, c) for a in numbers for b in numbers for c in numbers
        if a + b == c and (a < b or (rule == "any" and a == b))
    ]


SUMS = {(n, rule): brute_sums(n, rule) for n in range(31) for rule in RULES}


def brute_clashes(half, rule):
    found = []
    for numbers in SUMS[len(half), rule]:
        own = [half[number - 1] for number in numbers]
        if None not in own and len(set(own)) == 1:
            found.append(numbers)
    return found


def having(half, number, hue):
    """The half row in which the number has this hue."""
    own = list(half)
    own[number - 1] = hue
    return tuple(own)


def bare(half):
    return [x + 1 for x in range(len(half)) if half[x] is None]


def brute_barred(hues, half, rule, number):
    found = []
    for hue in range(hues):
        if any(number in clash for clash in brute_clashes(having(half, number, hue), rule)):
            found.append(hue)
    return tuple(found)


def brute_is_forced(hues, half, rule, number, hue):
    if number not in bare(half) or hue not in range(hues):
        return False
    return brute_barred(hues, half, rule, number) == tuple(other for other in range(hues) if other != hue)


def brute_forced(hues, half, rule):
    """All forced steps of the half row."""
    steps = itertools.product(bare(half), range(hues))
    return [step for step in steps if brute_is_forced(hues, half, rule, *step)]


def brute_shut(hues, half, rule):
    """All numbers without a hue for which all hues are barred."""
    return [x for x in bare(half) if brute_barred(hues, half, rule, x) == tuple(range(hues))]


@functools.cache
def brute_clean_rows(hues, n, rule):
    """All clean rows; not built from shorter ones as long as all rows can be gone through."""
    if hues ** n <= 3000:
        return [row for row in itertools.product(range(hues), repeat=n) if brute_clashes(row, rule) == []]
    longer = [row + (hue,) for row in brute_clean_rows(hues, n - 1, rule) for hue in range(hues)]
    return [row for row in longer if brute_clashes(row, rule) == []]


def brute_fits(hues, half, rule):
    rows = brute_clean_rows(hues, len(half), rule)
    return [row for row in rows if all(own is None or own == hue for own, hue in zip(half, row))]


def most_small(hues, rule):
    return 7 if hues == 3 and rule == "unlike" else 14


class Case(unittest.TestCase):

    def same(self, told, due):
        """Equal, and of the same kinds: True is not taken for 1, nor a tuple for a list."""
        self.assertEqual(repr(told), repr(due))

    def asked(self, call, *handed):
        """The answer, once it is seen that asking changes nothing and gives the same again."""
        before = repr(handed)
        told = call(*handed)
        self.assertEqual(repr(handed), before)
        self.same(call(*copy.deepcopy(handed)), told)
        return told

    def refused(self, error, call, *handed):
        before = repr(handed)
        with self.subTest(call=call.__name__, handed=before[:200]):
            with self.assertRaises(ValueError) as caught:
                call(*handed)
            self.assertIs(type(caught.exception), error)
            self.assertEqual(repr(handed), before)

    def owned(self, call, *handed):
        """What the asker does to a list that was told changes no later answer."""
        told = call(*handed)
        self.assertIs(type(told), list)
        due = repr(told)
        told.append("more")
        told.reverse()
        self.assertEqual(repr(call(*handed)), due)
        self.assertIsNot(call(*handed), call(*handed))
