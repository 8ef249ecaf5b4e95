"""Values: names with formulas in configurations, and expressions over them."""

from partloft.errors import (
    Fault, InvalidFormula, InvalidName, NoSuchConfiguration, NoSuchValue, TooMany,
)
from partloft.formulas import is_name, names_in, read_formula
from partloft.quantities import call, minus, negation, operate

MOST_VALUES = 40
MOST_CONFIGURATIONS = 4
LARGEST_WHOLE = 200


class Formula:
    """A formula that was read: its text, its expression, and the names that occur in it."""

    def __init__(self, text):
        self.text = text
        self.tree = read_formula(text)
        self.needs = _names_of(self.tree)


class Values:
    """Values in the order in which they were made, and configurations."""

    def __init__(self):
        self._names = []
        # The base of each configuration; the configuration 0 has none.
        self._bases = [None]
        # The own formulas of each configuration, by the names of the values.
        self._own = [{}]
        self._chosen = 0
        # What was worked out since the last change: quantities, or None for a fault.
        self._known = {}

    def define(self, name, text, configuration=0):
        """Gives a value a formula; a new name makes a new value."""
        if not is_name(name):
            raise InvalidName(name)
        self._check_configuration(configuration)
        is_new = name not in self._own[0]
        if is_new and configuration != 0:
            raise NoSuchValue(name)
        formula = Formula(text)
        self._check_needs(name, formula, configuration)
        if is_new and len(self._names) == MOST_VALUES:
            raise TooMany("values")
        self.put(name, formula, configuration)

    def put(self, name, formula, configuration):
        """Gives a value a formula of which nothing is checked any more."""
        if name not in self._own[0]:
            self._names.append(name)
        self._own[configuration][name] = formula
        self._known = {}

    def add_configuration(self, base):
        """The number of a new configuration."""
        self._check_configuration(base)
        if len(self._bases) == MOST_CONFIGURATIONS:
            raise TooMany("configurations")
        self._bases.append(base)
        self._own.append({})
        return len(self._bases) - 1

    def choose(self, configuration):
        """The number of the configuration that was chosen before."""
        self._check_configuration(configuration)
        before = self._chosen
        self._chosen = configuration
        self._known = {}
        return before

    def chosen(self):
        """The number of the chosen configuration."""
        return self._chosen

    def configuration_count(self):
        """How many configurations there are."""
        return len(self._bases)

    def base(self, configuration):
        """The base of a configuration, None for the configuration 0."""
        return self._bases[configuration]

    def names(self):
        """The list of the names of the values, in the order in which they were made."""
        return list(self._names)

    def formula(self, name, configuration):
        """The text that a value has in a configuration."""
        self._check_value(name)
        self._check_configuration(configuration)
        return self._formula_in(name, configuration).text

    def value(self, name):
        """The quantity of a value in the chosen configuration."""
        self._check_value(name)
        return evaluate(self._formula_in(name, self._chosen).tree, self)

    def chosen_formula(self, name):
        """The formula that a value has in the chosen configuration, None if there is no such value."""
        return self._formula_in(name, self._chosen) if name in self._own[0] else None

    def known(self):
        """A dict from names to quantities in the chosen configuration; evaluating adds to it."""
        return self._known

    def own_texts(self, configuration):
        """The list of (name, text) of the own formulas of a configuration, in the order of the values."""
        own = self._own[configuration]
        return [(name, own[name].text) for name in self._names if name in own]

    def is_sound(self, configuration, many):
        """True if none of the first so many values needs itself by way of these alone."""
        left = {name: self._formula_in(name, configuration).needs for name in self._names[:many]}
        while left:
            ready = [name for name in left if not any([other in left for other in left[name]])]
            if not ready:
                return False
            for name in ready:
                del left[name]
        return True

    def _check_value(self, name):
        if name not in self._own[0]:
            raise NoSuchValue(name)

    def _check_configuration(self, configuration):
        if not 0 <= configuration < len(self._bases):
            raise NoSuchConfiguration(configuration)

    def _formula_in(self, name, configuration):
        """The formula that a value has in a configuration: its own one, or else that of the base."""
        while name not in self._own[configuration]:
            configuration = self._bases[configuration]
        return self._own[configuration][name]

    def _check_needs(self, name, formula, configuration):
        """Refuses a formula by which a value would need itself anywhere."""
        needing = {}
        for number in self._where_it_counts(name, configuration):
            for other in self._needing(name, number):
                needing[other] = True
        if any([other in needing for other in formula.needs]):
            raise InvalidFormula([place for place, other in names_in(formula.text) if other in needing][0])

    def _where_it_counts(self, name, configuration):
        """The configurations in which an own formula of this one is the value's formula."""
        places = [configuration]
        for number in range(configuration + 1, len(self._bases)):
            if self._bases[number] in places and name not in self._own[number]:
                places.append(number)
        return places

    def _needing(self, name, configuration):
        """The list of a name and of all values that need it in a configuration."""
        needed_by = {}
        for one in self._names:
            for other in self._formula_in(one, configuration).needs:
                needed_by.setdefault(other, []).append(one)
        found = {name: True}
        waiting = [name]
        while waiting:
            for one in needed_by.get(waiting.pop(), []):
                if one not in found:
                    found[one] = True
                    waiting.append(one)
        return list(found)


def evaluate(expression, values):
    """The quantity of an expression in the chosen configuration; raises Fault."""
    _work_out(_names_of(expression), values)
    return _result(expression, values.known())


def whole_number(expression, values):
    """The whole number that an expression gives, or None."""
    try:
        quantity = evaluate(expression, values)
    except Fault:
        return None
    number, denominator, kind = quantity
    if denominator != 1 or kind not in (0, 1) or abs(number) > LARGEST_WHOLE:
        return None
    return number


def _names_of(expression):
    """The list of the different names that occur in an expression."""
    names = {}
    waiting = [expression]
    while waiting:
        one = waiting.pop()
        if one[0] == "name":
            names[one[1]] = True
        elif one[0] == "call":
            waiting.extend(one[2])
        elif one[0] != "number":
            waiting.extend(one[1:])
    return list(names)


def _work_out(names, values):
    """Makes the quantities of names known, and those of all that they need; None stands for a fault.

    The names wait on a list instead of in calls, because a row of values that
    need each other would nest the calls of all their formulas.
    """
    known = values.known()
    waiting = [name for name in names if name not in known]
    while waiting:
        name = waiting[-1]
        formula = values.chosen_formula(name)
        missing = []
        if formula is not None:
            missing = [other for other in formula.needs if other not in known]
        if missing:
            waiting.extend(missing)
        else:
            waiting.pop()
            if name not in known:
                known[name] = None if formula is None else _quantity_or_none(formula.tree, known)


def _quantity_or_none(expression, known):
    try:
        return _result(expression, known)
    except Fault:
        return None


def _result(expression, known):
    """The quantity of an expression, from the quantities of all names in it."""
    word = expression[0]
    if word == "number":
        return expression[1]
    if word == "name":
        return _known_quantity(expression[1], known)
    if word == "minus":
        return minus(_result(expression[1], known))
    if word == "not":
        return negation(_result(expression[1], known))
    if word == "choose":
        untrue = negation(_result(expression[1], known))
        return _result(expression[2] if untrue[0] == 0 else expression[3], known)
    if word == "call":
        return call(expression[1], [_result(part, known) for part in expression[2]])
    return operate(word, _result(expression[1], known), _result(expression[2], known))


def _known_quantity(name, known):
    if known[name] is None:
        raise Fault("value")
    return known[name]
