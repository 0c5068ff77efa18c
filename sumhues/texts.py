"""Half rows as texts."""

from sumhues.checks import MOST_NUMBERS, check_half, check_hues
from sumhues.errors import NoText

LETTERS = "abc"
BARE = "."
EMPTY = "none"


def half_text(hues, half):
    """The half row as written."""
    check_hues(hues)
    check_half(hues, half)
    if len(half) == 0:
        return EMPTY
    return "".join(sign_of(hue) for hue in half)


def sign_of(hue):
    return BARE if hue is None else LETTERS[hue]


def read_half(hues, text):
    """The half row that is so written."""
    check_hues(hues)
    if not isinstance(text, str):
        raise NoText("a half row is read of a text")
    if text == EMPTY:
        return ()
    if not 1 <= len(text) <= MOST_NUMBERS or not all(is_sign(hues, sign) for sign in text):
        raise NoText("a half row of so many hues is not written so")
    return tuple(hue_of(sign) for sign in text)


def is_sign(hues, sign):
    return sign == BARE or sign in LETTERS[:hues]


def hue_of(sign):
    return None if sign == BARE else LETTERS.index(sign)
