"""The errors of quantities, formulas, values, sketches, bodies and sheets."""


class LoftError(ValueError):
    """The base class of all errors that the program raises."""


class InvalidFormula(LoftError):
    """A text is not a formula, or a value would need itself."""

    def __init__(self, place):
        super().__init__(f"the formula is wrong at {place}")
        self.place = place


class Fault(LoftError):
    """An expression or an operation gives no quantity."""

    def __init__(self, word):
        super().__init__(f"no quantity: {word}")
        self.word = word


class InvalidName(LoftError):
    """A word cannot be the name of a value."""

    def __init__(self, name):
        super().__init__(f"not a name: {name}")
        self.name = name


class NoSuchValue(LoftError):
    """There is no value with this name."""

    def __init__(self, name):
        super().__init__(f"no such value: {name}")
        self.name = name


class NoSuchConfiguration(LoftError):
    """There is no configuration with this number."""

    def __init__(self, number):
        super().__init__(f"no such configuration: {number}")
        self.number = number


class TooMany(LoftError):
    """There would be more of something than its bound allows."""

    def __init__(self, what):
        super().__init__(f"too many {what}")
        self.what = what


class NoSuchPart(LoftError):
    """A sketch has no such point, line, disc or constraint."""

    def __init__(self, what, number):
        super().__init__(f"no such {what}: {number}")
        self.what = what
        self.number = number


class InvalidSketch(LoftError):
    """A sketch cannot be made or changed in this way."""

    def __init__(self, what):
        super().__init__(f"invalid in a sketch: {what}")
        self.what = what


class NotSolved(LoftError):
    """A sketch is in a state in which a question has no answer."""

    def __init__(self, state):
        super().__init__(f"the sketch is not solved: state {state}")
        self.state = state


class FieldFault(LoftError):
    """A field is beyond its bounds."""

    def __init__(self, field):
        super().__init__(f"a field is beyond its bounds: {field}")
        self.field = field


class ProfileFault(LoftError):
    """The profile of a sketch is not the one that is needed."""

    def __init__(self, profile):
        super().__init__(f"the profile does not fit: {profile}")
        self.profile = profile


class InvalidSheet(LoftError):
    """A text is not a sheet."""

    def __init__(self, line):
        super().__init__(f"the sheet is wrong in line {line}")
        self.line = line
