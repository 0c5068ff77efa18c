import inspect
import itertools
import unittest

from sumhues import texts as module
from sumhues.errors import NoHues, NoRow, NoText
from sumhues.texts import half_text, read_half
from tests.helper import NO_HALF, NO_HUES, ODD, Case, halves, long_halves, some_halves

SIGNS = {None: ".", 0: "a", 1: "b", 2: "c"}


class Interface(unittest.TestCase):

    def test_arguments_stand_as_listed(self):
        listed = {"half_text": ["hues", "half"], "read_half": ["hues", "text"]}
        for name, due in listed.items():
            with self.subTest(name=name):
                self.assertEqual(list(inspect.signature(getattr(module, name)).parameters), due)


class Written(Case):
    """Point 101."""

    def test_few(self):
        self.same(half_text(2, (0, 1, None, 0)), "ab.a")
        self.same(half_text(3, (2, None, 1)), "c.b")
        self.same(half_text(1, (None,)), ".")
        self.same(half_text(3, (None,) * 30), "." * 30)
        self.same(half_text(3, (2,) * 30), "c" * 30)
        self.same(read_half(2, "ab.a"), (0, 1, None, 0))
        self.same(read_half(3, "c.b"), (2, None, 1))
        self.same(read_half(1, "."), (None,))
        self.same(read_half(1, "a" * 30), (0,) * 30)

    def test_no_numbers(self):
        for hues in (1, 2, 3):
            self.same(half_text(hues, ()), "none")
            self.same(read_half(hues, "none"), ())
            self.refused(NoText, read_half, hues, "")

    def test_there_and_back(self):
        for hues in (1, 2, 3):
            for half in some_halves(hues):
                told = self.asked(half_text, hues, half)
                self.same(told, "".join(SIGNS[hue] for hue in half) if half else "none")
                self.same(self.asked(read_half, hues, told), half)

    def test_just_what_is_written_is_read(self):
        for hues in (1, 2, 3):
            written = {half_text(hues, half): half for half in halves(hues, 3)}
            for many in range(4):
                for signs in itertools.product("abcdA. none", repeat=many):
                    text = "".join(signs)
                    if text in written:
                        self.same(read_half(hues, text), written[text])
                    else:
                        self.refused(NoText, read_half, hues, text)

    def test_letters_that_the_hues_do_not_let(self):
        for hues, wrong in ((1, ("b", "c", "ab", "a.c", "." * 29 + "b")), (2, ("c", "abc", "..c", "c" + "." * 29))):
            for text in wrong:
                self.refused(NoText, read_half, hues, text)
                read_half(3, text)
        for text in ("d", "abcd", "A", "B", "aB", "z"):
            self.refused(NoText, read_half, 3, text)

    def test_thirty_signs_and_one_more(self):
        for hues in (1, 2, 3):
            for sign in (".", "a"):
                self.same(len(read_half(hues, sign * 30)), 30)
                for many in (31, 32, 300):
                    self.refused(NoText, read_half, hues, sign * many)
            for half in long_halves(hues):
                self.refused(NoText, read_half, hues, half_text(hues, half) + ".")

    def test_other_texts_and_things(self):
        wrong = [
            " ", "a b", " a", "a ", "a\n", "\n", "\ta", "ab ", "none ", " none", "None", "NONE", "non", "nonee", "nonea",
            "anone", "none.", "a,b", "-", "_", "0", "01", "a0", "~", "..,", "a" * 299, "none" * 75,
            0, 1, 2, (), (0,), (0, 1), ("a",), ("a", "b"), ["a"], ["none"], [], "any", b"a", b"none", {"a": "b"}, (None,),
        ]
        for text in wrong + ODD:
            for hues in (1, 2, 3):
                self.refused(NoText, read_half, hues, text)


class Refused(Case):

    def test_no_hues_goes_first(self):
        for wrong in NO_HUES:
            self.refused(NoHues, half_text, wrong, (0,))
            self.refused(NoHues, half_text, wrong, [0])
            self.refused(NoHues, read_half, wrong, "a")
            self.refused(NoHues, read_half, wrong, "")
            self.refused(NoHues, read_half, wrong, None)

    def test_no_row(self):
        for wrong in NO_HALF:
            for hues in (1, 2, 3):
                self.refused(NoRow, half_text, hues, wrong)
        self.refused(NoRow, half_text, 1, (1,))
        self.refused(NoRow, half_text, 2, (None, 2))


if __name__ == "__main__":
    unittest.main()
