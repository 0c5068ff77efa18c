"""What the tests share: odd things, half rows, and sums by brute force."""

import copy
import itertools
import unittest

RULES = ("any", "unlike")


def deep(depth):
    thing = ()
    for _ in range(depth - 1):
        thing = (thing,)
    return thing


# No whole number, text, list or tuple here is let anywhere in stage 1 and 2.
ODD = [
    None, True, False, -1, 31, 32, 10 ** 40 - 1, -(10 ** 40 - 1),
    "", "Any", "any ", "0", "1", "2", "a\nb\t~",
    [], [None], [0], [1], ["any"], [[]], [(), (), (), ()],
    (True,), (False,), ("0",), ((),), ([],), (-1,), (31,), (0, 0, 3), (None,) * 31, (0,) * 31, (0,) * 9000,
    {}, {0: 0}, {"any": None}, {1: [2]}, deep(60), [deep(59)],
]


def halves(hues, most):
    """All half rows of so many hues with at most so many numbers."""
    things = [None] + list(range(hues))
    for n in range(most + 1):
        yield from itertools.product(things, repeat=n)


def long_halves(hues):
    """Half rows of thirty numbers with all, few and no hues."""
    yield (None,) * 30
    yield (0,) * 30
    yield (hues - 1,) * 30
    yield tuple(x % hues for x in range(30))
    yield tuple(x * x // 3 % hues for x in range(30))
    yield tuple(None if x % 4 else x // 4 % hues for x in range(30))
    yield tuple(x * 7 % 5 % hues if x * 7 % 5 < 4 else None for x in range(30))


def some_halves(hues):
    yield from halves(hues, 4)
    yield from long_halves(hues)


def brute_sums(n, rule):
    numbers = range(1, n + 1)
    return [
        (a, b, c) for a in numbers for b in numbers for c in numbers
        if a + b == c and (a < b or (rule == "any" and a == b))
    ]


SUMS = {(n, rule): brute_sums(n, rule) for n in range(31) for rule in RULES}


def brute_clashes(half, rule):
    found = []
    for numbers in SUMS[len(half), rule]:
        own = [half[number - 1] for number in numbers]
        if None not in own and len(set(own)) == 1:
            found.append(numbers)
    return found


class Case(unittest.TestCase):

    def same(self, told, due):
        """Equal, and of the same kinds: True is not taken for 1, nor a tuple for a list."""
        self.assertEqual(repr(told), repr(due))

    def asked(self, call, *handed):
        """The answer, once it is seen that asking changes nothing and gives the same again."""
        before = repr(handed)
        told = call(*handed)
        self.assertEqual(repr(handed), before)
        self.same(call(*copy.deepcopy(handed)), told)
        return told

    def refused(self, error, call, *handed):
        before = repr(handed)
        with self.subTest(call=call.__name__, handed=before[:200]):
            with self.assertRaises(ValueError) as caught:
                call(*handed)
            self.assertIs(type(caught.exception), error)
            self.assertEqual(repr(handed), before)

    def owned(self, call, *handed):
        """What the asker does to a list that was told changes no later answer."""
        told = call(*handed)
        self.assertIs(type(told), list)
        due = repr(told)
        told.append("more")
        told.reverse()
        self.assertEqual(repr(call(*handed)), due)
        self.assertIsNot(call(*handed), call(*handed))
