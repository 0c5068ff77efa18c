"""A desk: it keeps a number of hues, a rule and a half row, and is told lines."""

from sumhues.checks import MOST_HUES, RULES, check_number
from sumhues.clashes import first_clash
from sumhues.errors import NoDeed, NoLine, NoText
from sumhues.fits import far_from, first_fit, fits_many
from sumhues.forced import barred, run, with_hue
from sumhues.texts import EMPTY, LETTERS, half_text, read_half, sign_of

FIGURES = "0123456789"


# Each of these is handed the hues, as some words are let by them.
def read_number(hues, word):
    is_short = 1 <= len(word) <= 2 and all(sign in FIGURES for sign in word)
    if not is_short or (word.startswith("0") and word != "0"):
        raise NoLine("a number has one or two figures, without a nought ahead")
    return int(word)


def read_hues(hues, word):
    many = read_number(hues, word)
    if not 1 <= many <= MOST_HUES:
        raise NoLine("there are from 1 to 3 hues")
    return many


def read_rule(hues, word):
    if word not in RULES:
        raise NoLine("a rule is any or unlike")
    return word


def read_letter(hues, word):
    if len(word) != 1 or word not in LETTERS[:hues]:
        raise NoLine("a hue is one of the letters that the hues let")
    return LETTERS.index(word)


def read_text(hues, word):
    try:
        return read_half(hues, word)
    except NoText:
        raise NoLine("a half row of so many hues is not written so") from None


READERS = {
    "N": read_number,
    "HUES": read_hues,
    "RULE": read_rule,
    "H": read_letter,
    "TEXT": read_text,
}

# What stands behind the first word of a line.
LINES = {
    "hues": ("HUES",),
    "rule": ("RULE",),
    "half": ("TEXT",),
    "put": ("N", "H"),
    "clear": ("N",),
    "back": (),
    "shown": (),
    "clash": (),
    "barred": ("N",),
    "run": (),
    "many": (),
    "first": (),
    "far": (),
}


def read_line(hues, line):
    """The first word of the line, and the list of what the others say."""
    if not isinstance(line, str):
        raise NoLine("a line is a text")
    first, *others = line.split(" ")
    if first not in LINES or len(others) != len(LINES[first]):
        raise NoLine("this is no line")
    return first, [read_word(hues, kind, word) for kind, word in zip(LINES[first], others)]


def read_word(hues, kind, word):
    reader = READERS[kind]
    return reader(hues, word)


def after_hues(now, parts):
    hues, rule, half = now
    return parts[0], rule, (None,) * len(half)


def after_rule(now, parts):
    hues, rule, half = now
    return hues, parts[0], half


def after_half(now, parts):
    hues, rule, half = now
    return hues, rule, parts[0]


def after_put(now, parts):
    hues, rule, half = now
    number, hue = parts
    check_number(number, 1, len(half))
    return hues, rule, with_hue(half, number, hue)


def after_clear(now, parts):
    return after_put(now, [parts[0], None])


def tell_shown(now, parts):
    hues, rule, half = now
    return f"{hues} {rule} {half_text(hues, half)}"


def tell_clash(now, parts):
    hues, rule, half = now
    found = first_clash(hues, half, rule)
    return EMPTY if found is None else " ".join(str(number) for number in found)


def tell_barred(now, parts):
    hues, rule, half = now
    found = barred(hues, half, rule, parts[0])
    return "".join(sign_of(hue) for hue in found) if found else EMPTY


def tell_run(now, parts):
    hues, rule, half = now
    end, steps, shut = run(hues, half, rule)
    text = half_text(hues, end)
    return text if shut is None else f"{text} shut {shut}"


def tell_many(now, parts):
    hues, rule, half = now
    return str(fits_many(hues, half, rule))


def tell_first(now, parts):
    hues, rule, half = now
    row = first_fit(hues, half, rule)
    return EMPTY if row is None else half_text(hues, row)


def tell_far(now, parts):
    hues, rule, half = now
    far = far_from(hues, half, rule)
    return EMPTY if far is None else str(far)


DEEDS = {
    "hues": after_hues,
    "rule": after_rule,
    "half": after_half,
    "put": after_put,
    "clear": after_clear,
}

QUESTIONS = {
    "shown": tell_shown,
    "clash": tell_clash,
    "barred": tell_barred,
    "run": tell_run,
    "many": tell_many,
    "first": tell_first,
    "far": tell_far,
}


class Desk:
    """It keeps (hues, rule, half), and what it kept ahead of each deed that stands."""

    def __init__(self):
        self.now = (2, "any", ())
        self.past = []

    def say(self, line):
        """The answer to the line."""
        hues, rule, half = self.now
        first, parts = read_line(hues, line)
        if first == "back":
            return self.go_back()
        if first in DEEDS:
            return self.go_on(first, parts)
        question = QUESTIONS[first]
        return question(self.now, parts)

    def go_on(self, first, parts):
        deed = DEEDS[first]
        # The deed may be refused: so nothing is changed ahead of it.
        after = deed(self.now, parts)
        self.past.append(self.now)
        self.now = after
        return "ok"

    def go_back(self):
        if len(self.past) == 0:
            raise NoDeed("no deed stands that could be undone")
        self.now = self.past.pop()
        return "ok"
