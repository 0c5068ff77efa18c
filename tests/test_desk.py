import inspect
import itertools
import random
import re
import unittest

from sumhues.clashes import first_clash
from sumhues.desk import Desk
from sumhues.errors import HueError, NoDeed, NoLine, NoNumber, TooMany
from sumhues.fits import far_from, first_fit, fits_many
from sumhues.forced import barred, run
from tests.helper import ODD, RULES, Case, having

QUESTIONS = ("shown", "clash", "run", "many", "first", "far")
SHORT = re.compile(r"0|[1-9][0-9]?")
# No lines of any desk, whatever it keeps.
NEVER = [
    "", " ", "  ", "\n", "\t", "other", "Shown", "SHOWN", "show", "shown.", "none", "ok", "a", "0", "any", "unlike", "abc",
    "hues", "rule", "half", "put", "put 1", "put a", "clear", "barred",
    "hues 2 2", "hues 2 any", "rule any unlike", "rule any any", "half a a", "half a b", "put 1 a a", "put 1 2 a",
    "clear 1 1", "clear 1 a", "back 1", "back back", "shown 1", "clash 1", "barred 1 1", "barred 1 a", "run 1",
    "many 1", "first 1", "far 1", "shown clash", "back shown",
    "hues ", "rule ", "half ", "put ", "put  ", "put  a", "put 1 ", "clear ", "barred ",
    "hues  2", "rule  any", "half  a", "put  1 a", "put 1  a", "clear  1", "barred  1",
    " hues 2", " rule any", " half a", " put 1 a", " clear 1", " back", " shown", " clash", " barred 1", " run", " far",
    "hues 2 ", "rule any ", "half a ", "put 1 a ", "clear 1 ", "back ", "shown ", "clash ", "barred 1 ", "run ", "far ",
    "many ", "first ", " many", " first",
    "hues 2\n", "rule any\n", "half a\n", "put 1 a\n", "clear 1\n", "back\n", "shown\n", "clash\n", "barred 1\n", "run\n",
    "many\n", "first\n", "far\n", "\nshown", "hues\n2", "hues\t2", "put 1\ta", "put\n1 a", "shown\nshown", "shown\t",
    "hues 0", "hues 4", "hues 5", "hues 10", "hues 99", "hues 02", "hues 002", "hues 100", "hues +2", "hues -1", "hues 2.",
    "hues two", "hues a", "hues any",
    "rule", "rule Any", "rule anyx", "rule an", "rule some", "rule 1", "rule none",
    "half d", "half abcd", "half A", "half 0", "half 1", "half None", "half non", "half nonea", "half -", "half ab,",
    "half " + "." * 31, "half " + "a" * 31, "half " + "a" * 290,
    "put 01 a", "put 00 a", "put 001 a", "put 100 a", "put 111 a", "put +1 a", "put -1 a", "put 1. a", "put a 1", "put a a",
    "put 1 d", "put 1 A", "put 1 .", "put 1 aa", "put 1 ab", "put 1 abc", "put 1 0", "put 1 none", "put one a",
    "put 1_0 a", "put 1e a", "put 1 bc",
    "clear 01", "clear 00", "clear 100", "clear +1", "clear -1", "clear a", "clear .", "clear 1,", "clear none",
    "barred 01", "barred 00", "barred 100", "barred 000", "barred +1", "barred -1", "barred a", "barred 1.0", "barred none",
    "half: a", "put,1,a", "hues=2", "rule:any", "set 1", "undo", "redo", "help", "quit",
    ("shown",), ["shown"], {"shown": 1}, b"shown", ("hues", 2), ["put", 1, "a"], 2, 0, 1, (), [], "~" * 300,
]
TWO_HUES_ONLY = ["half c", "half abc", "put 1 c", "half ..c"]


class Model:
    """A desk by its words: it keeps copies of all that it ever kept."""

    def __init__(self):
        self.kept = [(2, "any", ())]

    def say(self, line):
        hues, rule, half = self.kept[-1]
        word, *rest = line.split(" ")
        if word == "back":
            self.kept.pop()
            return "ok"
        if word == "hues":
            self.kept.append((int(rest[0]), rule, tuple(None for _ in half)))
        elif word == "rule":
            self.kept.append((hues, rest[0], half))
        elif word == "half":
            self.kept.append((hues, rule, parsed(rest[0])))
        elif word == "put":
            self.kept.append((hues, rule, having(half, int(rest[0]), "abc".index(rest[1]))))
        elif word == "clear":
            self.kept.append((hues, rule, having(half, int(rest[0]), None)))
        else:
            return self.answer(word, rest)
        return "ok"

    def answer(self, word, rest):
        hues, rule, half = self.kept[-1]
        if word == "shown":
            return " ".join([str(hues), rule, written(half)])
        if word == "clash":
            return " ".join(map(str, first_clash(hues, half, rule) or ())) or "none"
        if word == "barred":
            return "".join("abc"[hue] for hue in barred(hues, half, rule, int(rest[0]))) or "none"
        if word == "run":
            end, steps, shut = run(hues, half, rule)
            return written(end) + ("" if shut is None else " shut " + str(shut))
        if word == "many":
            return str(fits_many(hues, half, rule))
        if word == "first":
            row = first_fit(hues, half, rule)
            return "none" if row is None else written(row)
        far = far_from(hues, half, rule)
        return "none" if far is None else str(far)

    def due(self, line):
        """The answer, or the class it is refused with."""
        hues, rule, half = self.kept[-1]
        word, *rest = line.split(" ")
        numbers = [int(one) for one in rest if SHORT.fullmatch(one)]
        if word in ("put", "half") and any(sign in "abc"[hues:] for sign in rest[-1]):
            return NoLine
        if word in ("put", "clear") and numbers[0] not in range(1, len(half) + 1):
            return NoNumber
        if word == "back" and len(self.kept) == 1:
            return NoDeed
        try:
            return self.say(line)
        except HueError as refusal:
            return type(refusal)


def parsed(text):
    return () if text == "none" else tuple({".": None, "a": 0, "b": 1, "c": 2}[sign] for sign in text)


def written(half):
    return "".join("." if hue is None else "abc"[hue] for hue in half) or "none"


def desk_with(*lines):
    desk = Desk()
    for line in lines:
        desk.say(line)
    return desk


class DeskCase(Case):

    def says(self, desk, *pairs):
        for line, due in pairs:
            with self.subTest(line=line):
                self.same(desk.say(line), due)

    def does(self, desk, *lines):
        for line in lines:
            self.same(desk.say(line), "ok")

    def no(self, error, desk, line):
        """Refused, and what is shown is as it was."""
        before = desk.say("shown")
        self.refused(error, desk.say, line)
        self.same(desk.say("shown"), before)


class Interface(unittest.TestCase):

    def test_a_desk_is_made_of_nothing_and_has_its_own_say(self):
        self.assertEqual(list(inspect.signature(Desk).parameters), [])
        self.assertIn("say", vars(Desk))
        self.assertEqual(list(inspect.signature(Desk.say).parameters), ["self", "line"])


class Deeds(DeskCase):
    """Point 102: deeds."""

    def test_at_first(self):
        self.says(Desk(), ("shown", "2 any none"), ("clash", "none"), ("run", "none"), ("many", "1"), ("first", "none"))
        self.says(Desk(), ("far", "4"))

    def test_half(self):
        desk = Desk()
        for text in ("a", "ab.", "none", "." * 30, "b" * 30, "."):
            self.does(desk, "half " + text)
            self.says(desk, ("shown", "2 any " + text))

    def test_hues_take_all_hues_away(self):
        desk = desk_with("half abba.")
        for hues in (3, 1, 2, 2):
            self.does(desk, f"hues {hues}")
            self.says(desk, ("shown", f"{hues} any ....."))
            self.does(desk, "put 2 a")
        self.does(desk, "half none", "hues 3")
        self.says(desk, ("shown", "3 any none"))
        self.does(desk, "half " + "c" * 30, "hues 3")
        self.says(desk, ("shown", "3 any " + "." * 30))

    def test_rule_changes_the_rule_alone(self):
        desk = desk_with("hues 3", "half abc.")
        self.does(desk, "rule unlike")
        self.says(desk, ("shown", "3 unlike abc."))
        self.does(desk, "rule unlike", "rule any")
        self.says(desk, ("shown", "3 any abc."))

    def test_put_and_clear(self):
        desk = desk_with("half ....")
        self.does(desk, "put 1 a", "put 4 b")
        self.says(desk, ("shown", "2 any a..b"))
        self.does(desk, "put 1 b", "put 2 a", "clear 4")
        self.says(desk, ("shown", "2 any ba.."))
        self.does(desk, "clear 3", "clear 1", "put 2 a")
        self.says(desk, ("shown", "2 any .a.."))

    def test_put_and_clear_of_two_figures(self):
        desk = desk_with("hues 3", "half " + "." * 30)
        self.does(desk, "put 30 c", "put 10 b", "put 29 a")
        self.says(desk, ("shown", "3 any " + "." * 9 + "b" + "." * 18 + "ac"))
        self.does(desk, "clear 30", "clear 10")
        self.says(desk, ("shown", "3 any " + "." * 28 + "a."))

    def test_put_may_make_a_clash(self):
        desk = desk_with("half a.")
        self.does(desk, "put 2 a")
        self.says(desk, ("shown", "2 any aa"), ("clash", "1 1 2"))

    def test_numbers_that_are_none_of_it(self):
        for text, wrong in (("none", (0, 1, 99)), ("ab.", (0, 4, 5, 10, 30, 99)), ("." * 30, (0, 31, 99))):
            desk = desk_with("half " + text)
            for number in wrong:
                self.no(NoNumber, desk, f"put {number} a")
                self.no(NoNumber, desk, f"clear {number}")
            self.does(desk, "back")
            self.no(NoDeed, desk, "back")


class Back(DeskCase):
    """Point 102: back."""

    def test_none_stands(self):
        self.no(NoDeed, Desk(), "back")
        desk = Desk()
        for line in QUESTIONS:
            desk.say(line)
        self.no(NoDeed, desk, "back")

    def test_over_all_deeds(self):
        lines = ("half ab..", "hues 3", "rule unlike", "put 4 c", "clear 4", "half abc", "put 1 b", "hues 3", "half none")
        desk, shown = Desk(), []
        for line in lines:
            shown.append(desk.say("shown"))
            self.does(desk, line)
        self.says(desk, ("shown", "3 unlike none"))
        for due in reversed(shown):
            self.does(desk, "back")
            self.says(desk, ("shown", due))
        self.says(desk, ("shown", "2 any none"))
        for _ in range(2):
            self.no(NoDeed, desk, "back")

    def test_hues_undone_give_the_half_row_again(self):
        desk = desk_with("half ab.a", "hues 3")
        self.does(desk, "back")
        self.says(desk, ("shown", "2 any ab.a"))

    def test_deeds_that_change_nothing_stand_too(self):
        desk = desk_with("half .", "half .", "clear 1", "hues 2", "rule any")
        for due in ("2 any .",) * 4 + ("2 any none",):
            self.does(desk, "back")
            self.says(desk, ("shown", due))
        self.no(NoDeed, desk, "back")

    def test_back_is_no_deed_that_is_undone(self):
        desk = desk_with("half a", "half b")
        self.does(desk, "back", "back")
        self.says(desk, ("shown", "2 any none"))
        self.no(NoDeed, desk, "back")

    def test_new_deeds_behind_back(self):
        desk = desk_with("half a", "half b", "back", "half bb")
        self.does(desk, "back")
        self.says(desk, ("shown", "2 any a"))
        self.does(desk, "back")
        self.no(NoDeed, desk, "back")
        self.does(desk, "half b")
        self.says(desk, ("shown", "2 any b"))
        self.does(desk, "back")
        self.no(NoDeed, desk, "back")

    def test_behind_what_was_refused(self):
        desk = desk_with("half a.", "put 2 b")
        wrong = (("put 3 a", NoNumber), ("clear 0", NoNumber), ("put 1 c", NoLine), ("half abc", NoLine), ("hues 4", NoLine))
        for line, error in wrong + (("barred 1", NoNumber), ("barred 9", NoNumber), ("rule", NoLine), (None, NoLine)):
            self.no(error, desk, line)
        self.does(desk, "back")
        self.says(desk, ("shown", "2 any a."))
        self.no(NoNumber, desk, "put 3 a")
        self.does(desk, "back")
        self.says(desk, ("shown", "2 any none"))
        self.no(NoDeed, desk, "back")

    def test_questions_do_not_stand(self):
        desk = desk_with("half a.")
        for line in QUESTIONS + ("barred 2",):
            desk.say(line)
        self.does(desk, "back")
        self.says(desk, ("shown", "2 any none"))
        self.no(NoDeed, desk, "back")


class Questions(DeskCase):
    """Point 102: questions."""

    def test_clash(self):
        desk = desk_with("half ab.baa")
        self.says(desk, ("clash", "2 2 4"))
        self.does(desk, "rule unlike")
        self.says(desk, ("clash", "1 5 6"))
        self.does(desk, "half abba")
        self.says(desk, ("clash", "none"))
        self.does(desk, "half " + "." * 9 + "a" + "." * 9 + "a")
        self.says(desk, ("clash", "none"))
        self.does(desk, "rule any")
        self.says(desk, ("clash", "10 10 20"))

    def test_barred(self):
        desk = desk_with("half ab.a.")
        self.says(desk, ("barred 3", "a"), ("barred 5", "a"))
        self.does(desk, "put 3 b")
        self.says(desk, ("barred 5", "ab"))
        self.does(desk, "hues 3", "half abba......")
        self.says(desk, ("barred 5", "ab"), ("barred 9", "none"), ("barred 7", "none"), ("barred 6", "b"), ("barred 8", "a"))
        self.does(desk, "half cbbc.")
        self.says(desk, ("barred 5", "bc"))
        for number in (0, 1, 2, 3, 4, 6, 10, 99):
            self.no(NoNumber, desk, f"barred {number}")
        self.no(NoNumber, Desk(), "barred 1")

    def test_run(self):
        desk = desk_with("half a....")
        self.says(desk, ("run", "abba. shut 5"), ("shown", "2 any a...."))
        self.does(desk, "half a...")
        self.says(desk, ("run", "abba"))
        self.does(desk, "hues 3")
        self.says(desk, ("run", "...."))
        self.does(desk, "hues 1", "half " + "." * 30)
        self.says(desk, ("run", "a" + "." * 29 + " shut 2"))

    def test_shut_at_a_number_of_two_figures(self):
        # 10 has 1 and 9 in the one hue, 2 and 8 in the other; all others have hues.
        desk = desk_with("half ababababa.")
        self.says(desk, ("run", "ababababa. shut 10"))

    def test_many_first_far(self):
        desk = desk_with("half ...")
        self.says(desk, ("many", "4"), ("first", "aba"), ("far", "4"))
        self.does(desk, "put 2 a")
        self.says(desk, ("many", "2"), ("first", "baa"), ("far", "4"))
        self.does(desk, "half aba")
        self.says(desk, ("many", "1"), ("first", "aba"), ("far", "3"))
        self.does(desk, "half aa")
        self.says(desk, ("many", "0"), ("first", "none"), ("far", "none"))
        self.does(desk, "rule unlike", "half ........")
        self.says(desk, ("many", "2"), ("first", "aababbba"), ("far", "8"))
        self.does(desk, "hues 3", "rule any", "half " + "." * 13)
        self.says(desk, ("many", "18"), ("first", "abbaccaccabba"), ("far", "13"))

    def test_more_than_fourteen_numbers(self):
        for hues, rule, sign in itertools.product((1, 2, 3), RULES, ".a"):
            for many in (15, 30):
                desk = desk_with(f"hues {hues}", f"rule {rule}", "half " + sign * many)
                for line in ("many", "first", "far"):
                    self.no(TooMany, desk, line)
                for line in ("shown", "clash", "run"):
                    desk.say(line)
        for hues in (1, 2, 3):
            desk = desk_with(f"hues {hues}", "half " + "." * 14)
            self.says(desk, ("many", "0"), ("first", "none"), ("far", "none"))

    def test_three_hues_by_unlike(self):
        desk = desk_with("hues 3", "rule unlike", "half .......")
        self.says(desk, ("many", str(fits_many(3, (None,) * 7, "unlike"))), ("first", "aababba"))
        self.no(TooMany, desk, "far")
        self.does(desk, "half ........")
        for line in ("many", "first", "far"):
            self.no(TooMany, desk, line)
        self.does(desk, "half none")
        self.says(desk, ("many", "1"), ("first", "none"))
        self.no(TooMany, desk, "far")

    def test_the_same_asked_again(self):
        desk = desk_with("half a....")
        for line in QUESTIONS + ("barred 2",):
            self.same(desk.say(line), desk.say(line))


class Lines(DeskCase):
    """Point 103: what is no line."""

    def test_never_lines(self):
        starts = ((), ("half ab..",), ("hues 3", "half abc" + "." * 27), ("hues 1", "rule unlike"))
        for start in starts:
            desk = desk_with(*start)
            for line in NEVER + ODD:
                self.no(NoLine, desk, line)
            for _ in start:
                self.does(desk, "back")
            self.no(NoDeed, desk, "back")

    def test_letters_that_the_hues_do_not_let(self):
        desk = desk_with("half ...")
        for line in TWO_HUES_ONLY:
            self.no(NoLine, desk, line)
        self.does(desk, "hues 1")
        for line in TWO_HUES_ONLY + ["half b", "half ab", "put 1 b", "half ." + "b"]:
            self.no(NoLine, desk, line)
        self.does(desk, "put 1 a", "hues 3", *TWO_HUES_ONLY)

    def test_no_line_goes_ahead_of_all_else(self):
        desk = desk_with("half " + "." * 15)
        for line in ("put 99 c", "put 0 d", "clear 099", "barred 016", "many ", "far 1", "first\n"):
            self.no(NoLine, desk, line)
        for line in ("back ", "back 1", "put 1 c", "put 1"):
            self.no(NoLine, Desk(), line)

    def test_all_numbers_of_one_and_two_figures_are_lines(self):
        desk = desk_with("half ..")
        for number in range(100):
            if number in (1, 2):
                self.says(desk, (f"barred {number}", "none"))
            else:
                for line in (f"barred {number}", f"clear {number}", f"put {number} a"):
                    self.no(NoNumber, desk, line)


class Apart(DeskCase):
    """Points 103 and 4: two desks have nothing in common."""

    def test_two_desks(self):
        one, other = Desk(), Desk()
        self.does(one, "half ab.", "rule unlike")
        self.says(other, ("shown", "2 any none"))
        self.no(NoDeed, other, "back")
        self.does(other, "hues 3", "half c")
        self.says(one, ("shown", "2 unlike ab."))
        self.does(one, "back", "back")
        self.no(NoDeed, one, "back")
        self.says(other, ("shown", "3 any c"))
        self.says(Desk(), ("shown", "2 any none"))
        self.does(other, "back", "back")
        self.no(NoDeed, other, "back")


class ByModel(DeskCase):
    """Many lines told to two desks by turns, each held against a model."""

    def lines(self, chance):
        text = "".join(chance.choice("..ab" + "c" * chance.randint(0, 1)) for _ in range(chance.randint(1, 9)))
        number = chance.randint(0, 9)
        deeds = [f"put {number} {chance.choice('aabc')}", f"put {number} {chance.choice('ab')}", f"clear {number}"]
        rare = [f"half {text}", f"hues {chance.randint(1, 3)}", f"rule {chance.choice(RULES)}", "half none"]
        return chance.choice([*deeds, *deeds, chance.choice(rare), "back", "back", f"barred {number}", *QUESTIONS])

    def test_by_model(self):
        chance = random.Random(20)
        pairs = [(Desk(), Model()), (Desk(), Model())]
        seen = set()
        for _ in range(3000):
            desk, model = chance.choice(pairs)
            line = self.lines(chance)
            due = model.due(line)
            seen.add(due if isinstance(due, type) else line.split(" ")[0])
            if isinstance(due, type):
                self.no(due, desk, line)
            else:
                self.same(desk.say(line), due)
            self.same(desk.say("shown"), model.say("shown"))
        words = {"hues", "rule", "half", "put", "clear", "back", "barred", *QUESTIONS}
        self.assertEqual(seen, words | {NoLine, NoNumber, NoDeed, TooMany})


if __name__ == "__main__":
    unittest.main()
