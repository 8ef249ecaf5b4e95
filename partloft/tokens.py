"""Tokens: the numbers, words and signs of a formula, from the left."""

from partloft.errors import Fault
from partloft.quantities import make_quantity

# The sorts of tokens. A token is a tuple (sort, place, content): the content is
# a quantity for a number and a text for all others.
NUMBER = "number"
WORD = "word"
SIGN = "sign"
WRONG = "wrong"
END = "end"

DIGITS = "0123456789"
LETTERS = "ABCDEFGHIJKLMNOPQRSTUVWXYZabcdefghijklmnopqrstuvwxyz"
WORD_CHARACTERS = "ABCDEFGHIJKLMNOPQRSTUVWXYZabcdefghijklmnopqrstuvwxyz0123456789_"

LONGEST_WORD = 12
LONGEST_WHOLE = 5
LONGEST_REST = 4
POWERS_OF_TEN = (1, 10, 100, 1000, 10000)

# Longer signs stand before the shorter ones with which they begin.
SIGNS = ("==", "!=", "<=", ">=", "&&", "||", "+", "-", "*", "/", "(", ")", ",", "?", ":", "!", "<", ">")

UNITS = {"mm": (1, 1), "cm": (10, 1), "in": (127, 5)}


def tokens_of(text):
    """The list of the tokens of a text.

    The last one is of the sort END, or of the sort WRONG where no token can be
    read; nothing is read behind that.
    """
    tokens = []
    place = _behind_spaces(text, 0)
    while place < len(text):
        token, end = _token_at(text, place)
        tokens.append(token)
        if token[0] == WRONG:
            return tokens
        place = _behind_spaces(text, end)
    tokens.append((END, len(text), ""))
    return tokens


def is_word(text):
    """True if a whole text is a word that is not too long."""
    if text == "" or text[0] not in LETTERS or len(text) > LONGEST_WORD:
        return False
    return _run_end(text, 0, WORD_CHARACTERS) == len(text)


def _run_end(text, place, characters):
    """The end of the row of such characters that begins at a place."""
    while place < len(text) and text[place] in characters:
        place += 1
    return place


def _behind_spaces(text, place):
    return _run_end(text, place, " ")


def _token_at(text, place):
    """The token at a place, and the place behind it."""
    if text[place] in DIGITS:
        return _number_at(text, place)
    if text[place] in LETTERS:
        return _word_at(text, place)
    for sign in SIGNS:
        if text.startswith(sign, place):
            return (SIGN, place, sign), place + len(sign)
    return (WRONG, place, ""), place


def _word_at(text, place):
    end = _run_end(text, place, WORD_CHARACTERS)
    if end - place > LONGEST_WORD:
        return (WRONG, place, ""), place
    return (WORD, place, text[place:end]), end


def _number_at(text, place):
    """A number with the unit that follows it: both give one quantity."""
    point = _run_end(text, place, DIGITS)
    end = point
    if text.startswith(".", point):
        end = _run_end(text, point + 1, DIGITS)
    whole = text[place:point]
    rest = text[point + 1:end]
    start = _behind_spaces(text, end)
    behind = _run_end(text, start, WORD_CHARACTERS)
    unit = text[start:behind]
    glued = text[end:end + 1]
    if _is_badly_written(whole, rest, end - point) or (unit not in UNITS and _may_not_follow(glued)):
        return (WRONG, place, ""), place
    quantity = _quantity_of(whole, rest, unit)
    if quantity is None:
        return (WRONG, place, ""), place
    return (NUMBER, place, quantity), (behind if unit in UNITS else end)


def _is_badly_written(whole, rest, many):
    """True if there are too many digits, or a point without digits behind it."""
    return len(whole) > LONGEST_WHOLE or len(rest) > LONGEST_REST or many == 1


def _may_not_follow(character):
    return character != "" and (character in WORD_CHARACTERS or character == ".")


def _quantity_of(whole, rest, unit):
    """The quantity of a number, or None if it would be none."""
    factor = UNITS.get(unit, (1, 1))
    kind = 1 if unit in UNITS else 0
    top = int(whole + rest) * factor[0]
    bottom = POWERS_OF_TEN[len(rest)] * factor[1]
    try:
        return make_quantity(top, bottom, kind)
    except Fault:
        return None
