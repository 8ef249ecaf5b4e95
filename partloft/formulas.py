"""Formulas: reading a text gives an expression."""

from partloft.errors import InvalidFormula
from partloft.tokens import END, NUMBER, SIGN, UNITS, WORD, is_word, tokens_of

LONGEST = 240
MOST_OPEN = 24

# The words of expressions for the signs in front of an operand.
PREFIXES = {"-": "minus", "!": "not"}

# How many arguments a function has.
ARGUMENTS = {
    "min": 2, "max": 2, "mod": 2, "div": 2, "mid": 3,
    "abs": 1, "floor": 1, "ceil": 1, "round": 1, "sign": 1, "sqr": 1,
}

# The signs between operands; those with a lesser rank bind less.
RANKS = {
    "||": 0, "&&": 1, "==": 2, "!=": 2, "<": 3, "<=": 3, ">": 3, ">=": 3,
    "+": 4, "-": 4, "*": 5, "/": 5,
}


def is_name(word):
    """True if a string can be the name of a value."""
    return is_word(word) and word not in ARGUMENTS and word not in UNITS


def read_formula(text):
    """The expression of a formula; raises InvalidFormula."""
    if len(text) > LONGEST:
        raise InvalidFormula(LONGEST)
    reader = Reader(tokens_of(text))
    expression = reader.choice()
    reader.finish()
    return expression


def names_in(text):
    """The list of (place, name) for the names in a formula; raises InvalidFormula."""
    read_formula(text)
    return [(place, word) for (sort, place, word) in tokens_of(text) if sort == WORD and is_name(word)]


class Reader:
    """Reads tokens from the left and refuses the first that cannot stand."""

    def __init__(self, tokens):
        self.tokens = list(tokens)
        self.at = 0
        self.depth = 0

    def finish(self):
        """Refuses whatever stands behind the formula."""
        if self.tokens[self.at][0] != END:
            self.refuse()

    def refuse(self):
        """Raises the error for the token that stands next."""
        raise InvalidFormula(self.tokens[self.at][1])

    def next_sign(self):
        """The sign that stands next, or an empty text."""
        sort, _, content = self.tokens[self.at]
        return content if sort == SIGN else ""

    def take(self, sign):
        """Goes past this sign."""
        if self.next_sign() != sign:
            self.refuse()
        self.at += 1

    def take_opening(self, sign):
        """Goes past this sign, from which on one more is open."""
        if self.next_sign() != sign or self.depth == MOST_OPEN:
            self.refuse()
        self.at += 1
        self.depth += 1

    def choice(self):
        """A whole formula: a condition, perhaps with two formulas to choose from."""
        condition = self.condition(0)
        if self.next_sign() != "?":
            return condition
        self.take_opening("?")
        first = self.choice()
        self.take(":")
        second = self.choice()
        self.depth -= 1
        return ("choose", condition, first, second)

    def condition(self, rank):
        """Operands with signs between them that have at least this rank."""
        left = self.operand()
        while RANKS.get(self.next_sign(), -1) >= rank:
            sign = self.next_sign()
            self.take(sign)
            left = (sign, left, self.condition(RANKS[sign] + 1))
        return left

    def operand(self):
        """An operand with the signs in front of it."""
        sort, _, content = self.tokens[self.at]
        if sort == NUMBER:
            self.at += 1
            return ("number", content)
        if sort == WORD:
            return self.named(content)
        if content == "(":
            return self.bracket()
        if content not in PREFIXES:
            self.refuse()
        return (PREFIXES[content], self.behind(content))

    def behind(self, sign):
        """The operand behind a sign in front of it."""
        self.take_opening(sign)
        operand = self.operand()
        self.depth -= 1
        return operand

    def bracket(self):
        """A formula in brackets."""
        self.take_opening("(")
        inner = self.choice()
        self.take(")")
        self.depth -= 1
        return inner

    def named(self, content):
        """A name, or a function with its arguments."""
        if content in UNITS:
            self.refuse()
        self.at += 1
        if content not in ARGUMENTS:
            return ("name", content)
        return ("call", content, self.arguments(ARGUMENTS[content]))

    def arguments(self, many):
        """So many formulas in brackets."""
        self.take_opening("(")
        found = [self.choice()]
        while len(found) < many:
            self.take(",")
            found.append(self.choice())
        self.take(")")
        self.depth -= 1
        return tuple(found)
