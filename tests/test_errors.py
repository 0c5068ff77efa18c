import unittest

from sumhues import errors

REFUSALS = (
    "NoHues", "NoRow", "NoRule", "NoNumber", "NoHue", "NoLot", "NoStep",
    "NoPaper", "NoClean", "TooMany", "NoText", "NoLine", "NoDeed",
)


class Errors(unittest.TestCase):
    """Point 5 and the interface of sumhues/errors.py."""

    def test_the_base_stands_straight_under_value_error(self):
        self.assertEqual(errors.HueError.__bases__, (ValueError,))

    def test_each_refusal_stands_straight_under_the_base(self):
        for name in REFUSALS:
            with self.subTest(name=name):
                self.assertEqual(getattr(errors, name).__bases__, (errors.HueError,))

    def test_there_are_no_others(self):
        own = {name for name, thing in vars(errors).items() if isinstance(thing, type)}
        self.assertEqual(own, {"HueError", *REFUSALS})

    def test_each_is_made_with_a_text(self):
        for name in ("HueError", *REFUSALS):
            with self.subTest(name=name):
                self.assertEqual(str(getattr(errors, name)("a text")), "a text")


if __name__ == "__main__":
    unittest.main()
