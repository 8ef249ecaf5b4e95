"""Values: names with formulas in configurations, and expressions over them."""

from partloft.errors import (
    Fault, InvalidFormula, InvalidName, NoSuchConfiguration, NoSuchValue, TooMany,
)
from partloft.formulas import is_name, names_in, read_formula
from partloft.quantities import call, minus, negation, operate

MOST_VALUES = 40
MOST_CONFIGURATIONS = 4
LARGEST_WHOLE = 200


class Values:
    """Values in the order in which they were made, and configurations."""

    def __init__(self):
        self._names = []
        # The base of each configuration; the configuration 0 has none.
        self._bases = [None]
        # The own formulas of each configuration: from names to texts.
        self._own = [{}]
        # The expressions of these texts, so that each is read only once.
        self._read = [{}]
        self._chosen = 0

    def define(self, name, text, configuration=0):
        """Gives a value a formula; a new name makes a new value."""
        if not is_name(name):
            raise InvalidName(name)
        self._check_configuration(configuration)
        is_new = name not in self._own[0]
        if is_new and configuration != 0:
            raise NoSuchValue(name)
        expression = read_formula(text)
        self._check_needs(name, text, configuration)
        if is_new and len(self._names) == MOST_VALUES:
            raise TooMany("values")
        if is_new:
            self._names.append(name)
        self._own[configuration][name] = text
        self._read[configuration][name] = expression

    def add_configuration(self, base):
        """The number of a new configuration."""
        self._check_configuration(base)
        if len(self._bases) == MOST_CONFIGURATIONS:
            raise TooMany("configurations")
        self._bases.append(base)
        self._own.append({})
        self._read.append({})
        return len(self._bases) - 1

    def choose(self, configuration):
        """The number of the configuration that was chosen before."""
        self._check_configuration(configuration)
        before = self._chosen
        self._chosen = configuration
        return before

    def chosen(self):
        """The number of the chosen configuration."""
        return self._chosen

    def configuration_count(self):
        """How many configurations there are."""
        return len(self._bases)

    def names(self):
        """The list of the names of the values, in the order in which they were made."""
        return list(self._names)

    def formula(self, name, configuration):
        """The text that a value has in a configuration."""
        self._check_value(name)
        self._check_configuration(configuration)
        return self._own[self._home(name, configuration)][name]

    def value(self, name):
        """The quantity of a value in the chosen configuration."""
        self._check_value(name)
        return evaluate(self.expression(name), self)

    def expression(self, name):
        """The expression of a value in the chosen configuration, None if there is no such value."""
        if name not in self._own[0]:
            return None
        return self._read[self._home(name, self._chosen)][name]

    def _check_value(self, name):
        if name not in self._own[0]:
            raise NoSuchValue(name)

    def _check_configuration(self, configuration):
        if not 0 <= configuration < len(self._bases):
            raise NoSuchConfiguration(configuration)

    def _home(self, name, configuration):
        """The configuration whose own formula a value has in this one."""
        while name not in self._own[configuration]:
            configuration = self._bases[configuration]
        return configuration

    def _check_needs(self, name, text, configuration):
        """Refuses a formula by which a value would need itself anywhere."""
        places = self._where_it_counts(name, configuration)
        for place, other in names_in(text):
            for number in places:
                if name in self._needed(other, number):
                    raise InvalidFormula(place)

    def _where_it_counts(self, name, configuration):
        """The configurations in which an own formula of this one is the value's formula."""
        places = [configuration]
        for number in range(configuration + 1, len(self._bases)):
            if self._bases[number] in places and name not in self._own[number]:
                places.append(number)
        return places

    def _needed(self, name, configuration):
        """A name and all names that its value needs in a configuration."""
        found = {name: True}
        waiting = [name]
        while waiting:
            one = waiting.pop()
            if one in self._own[0]:
                expression = self._read[self._home(one, configuration)][one]
                fresh = [other for other in _names_of(expression) if other not in found]
                for other in fresh:
                    found[other] = True
                waiting.extend(fresh)
        return found


def evaluate(expression, values):
    """The quantity of an expression in the chosen configuration; raises Fault."""
    return _result(expression, _worked_out(_names_of(expression), values))


def whole_number(expression, values):
    """The whole number that an expression gives, or None."""
    try:
        quantity = evaluate(expression, values)
    except Fault:
        return None
    number, denominator, kind = quantity
    if denominator != 1 or kind not in (0, 1) or abs(number) > LARGEST_WHOLE:
        return None
    return number


def _names_of(expression):
    """The list of the different names that occur in an expression."""
    names = {}
    waiting = [expression]
    while waiting:
        one = waiting.pop()
        if one[0] == "name":
            names[one[1]] = True
        elif one[0] == "call":
            waiting.extend(one[2])
        elif one[0] != "number":
            waiting.extend(one[1:])
    return list(names)


def _worked_out(names, values):
    """A dict from names, and all that they need, to quantities; None stands for a fault.

    The names wait on a list instead of in calls, because a row of values that
    need each other would nest the calls of all their formulas.
    """
    known = {}
    waiting = list(names)
    while waiting:
        name = waiting[-1]
        expression = values.expression(name)
        missing = []
        if expression is not None:
            missing = [other for other in _names_of(expression) if other not in known]
        if missing:
            waiting.extend(missing)
        else:
            waiting.pop()
            if name not in known:
                known[name] = _quantity_or_none(expression, known)
    return known


def _quantity_or_none(expression, known):
    if expression is None:
        return None
    try:
        return _result(expression, known)
    except Fault:
        return None


def _result(expression, known):
    """The quantity of an expression, from the quantities of all names in it."""
    word = expression[0]
    if word == "number":
        return expression[1]
    if word == "name":
        return _known_quantity(expression[1], known)
    if word == "minus":
        return minus(_result(expression[1], known))
    if word == "not":
        return negation(_result(expression[1], known))
    if word == "choose":
        untrue = negation(_result(expression[1], known))
        return _result(expression[2] if untrue[0] == 0 else expression[3], known)
    if word == "call":
        return call(expression[1], [_result(part, known) for part in expression[2]])
    return operate(word, _result(expression[1], known), _result(expression[2], known))


def _known_quantity(name, known):
    if known[name] is None:
        raise Fault("value")
    return known[name]
