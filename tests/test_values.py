"""Points 20 and 21: values, configurations, and values that would need themselves."""

import unittest

from helping import refusal
from partloft.values import Values


def seen(values):
    """All that can be asked of values, in every configuration."""
    answers = [values.names(), values.configuration_count(), values.chosen()]
    for name in values.names():
        for number in range(values.configuration_count()):
            answers.append(values.formula(name, number))
    before = values.chosen()
    for number in range(values.configuration_count()):
        values.choose(number)
        for name in values.names():
            fault = refusal(values.value, name)
            answers.append(values.value(name) if fault is None else fault)
    values.choose(before)
    return answers


class Checked(unittest.TestCase):
    def check_refused(self, values, wanted, work, *arguments):
        """A refused call changes nothing (point 4)."""
        before = seen(values)
        self.assertEqual(refusal(work, *arguments), wanted)
        self.assertEqual(seen(values), before)


class Point20(Checked):
    """Up to 40 values and up to 4 configurations."""

    def test_no_values_at_first(self):
        values = Values()
        self.assertEqual(seen(values), [[], 1, 0])

    def test_values_in_the_order_in_which_they_were_made(self):
        values = Values()
        for name in ("b", "a", "c"):
            self.assertIsNone(values.define(name, "1"))
        values.define("b", "2")
        values.define("a", "2", 0)
        self.assertEqual(values.names(), ["b", "a", "c"])
        self.assertEqual([values.formula(name, 0) for name in "abc"], ["2", "2", "1"])

    def test_the_text_is_kept_as_it_is(self):
        values = Values()
        values.define("a", "  1 +  (2 mm)  ")
        self.assertEqual(values.formula("a", 0), "  1 +  (2 mm)  ")

    def test_40_values_and_a_41st(self):
        values = Values()
        for number in range(40):
            values.define("v" + str(number), "1")
        self.check_refused(values, ("TooMany", "values"), values.define, "w", "1")
        values.define("v39", "2")
        values.add_configuration(0)
        values.define("v0", "3", 1)
        self.assertEqual(len(values.names()), 40)
        self.assertEqual(values.value("v39"), (2, 1, 0))

    def test_4_configurations_and_a_5th(self):
        values = Values()
        self.assertEqual([values.add_configuration(base) for base in (0, 0, 2)], [1, 2, 3])
        self.assertEqual(values.configuration_count(), 4)
        self.check_refused(values, ("TooMany", "configurations"), values.add_configuration, 0)

    def test_the_base_of_a_configuration_is_there(self):
        values = Values()
        for number in (1, -1, 4):
            self.check_refused(values, ("NoSuchConfiguration", number), values.add_configuration, number)
        for base in (0, 1, 0):
            values.add_configuration(base)
        self.check_refused(values, ("NoSuchConfiguration", 4), values.add_configuration, 4)
        self.check_refused(values, ("NoSuchConfiguration", -1), values.add_configuration, -1)

    def test_formulas_of_the_base_apply(self):
        values = Values()
        for base in (0, 1, 0):
            values.add_configuration(base)
        values.define("a", "1")
        self.assertEqual([values.formula("a", number) for number in range(4)], ["1", "1", "1", "1"])
        values.define("a", "2", 1)
        self.assertEqual([values.formula("a", number) for number in range(4)], ["1", "2", "2", "1"])
        values.define("a", "3", 2)
        self.assertEqual([values.formula("a", number) for number in range(4)], ["1", "2", "3", "1"])
        values.define("a", "4", 0)
        self.assertEqual([values.formula("a", number) for number in range(4)], ["4", "2", "3", "4"])
        values.define("a", "5", 1)
        self.assertEqual([values.formula("a", number) for number in range(4)], ["4", "5", "3", "4"])

    def test_quantities_in_the_chosen_configuration(self):
        values = Values()
        values.define("a", "1")
        values.define("b", "a + 1 / 2")
        values.add_configuration(0)
        values.add_configuration(1)
        values.define("a", "1 mm", 1)
        values.define("b", "a * a", 2)
        found = []
        for number in (0, 1, 2):
            values.choose(number)
            fault = refusal(values.value, "b")
            found.append(values.value("b") if fault is None else fault)
        self.assertEqual(found, [(3, 2, 0), ("Fault", "kinds"), (1, 1, 2)])

    def test_choosing(self):
        values = Values()
        values.add_configuration(0)
        values.add_configuration(0)
        self.assertEqual(values.chosen(), 0)
        self.assertEqual(values.choose(2), 0)
        self.assertEqual(values.choose(1), 2)
        self.assertEqual(values.choose(1), 1)
        self.assertEqual(values.chosen(), 1)
        self.check_refused(values, ("NoSuchConfiguration", 3), values.choose, 3)
        self.check_refused(values, ("NoSuchConfiguration", -1), values.choose, -1)

    def test_unknown_values(self):
        values = Values()
        values.define("a", "1")
        self.check_refused(values, ("NoSuchValue", "b"), values.value, "b")
        self.check_refused(values, ("NoSuchValue", "b"), values.formula, "b", 0)
        self.check_refused(values, ("NoSuchValue", "b"), values.formula, "b", 1)
        self.check_refused(values, ("NoSuchConfiguration", 1), values.formula, "a", 1)
        self.check_refused(values, ("NoSuchConfiguration", -1), values.formula, "a", -1)
        self.check_refused(values, ("NoSuchValue", "min"), values.value, "min")

    def test_the_order_of_the_errors_of_define(self):
        values = Values()
        values.add_configuration(0)
        for number in range(40):
            values.define("v" + str(number), "1")
        self.check_refused(values, ("InvalidName", "mm"), values.define, "mm", "1 +", 9)
        self.check_refused(values, ("InvalidName", "max"), values.define, "max", "1")
        self.check_refused(values, ("InvalidName", ""), values.define, "", "1")
        self.check_refused(values, ("InvalidName", "x" * 13), values.define, "x" * 13, "1")
        self.check_refused(values, ("NoSuchConfiguration", 2), values.define, "new", "1 +", 2)
        self.check_refused(values, ("NoSuchConfiguration", -1), values.define, "v0", "1 +", -1)
        self.check_refused(values, ("NoSuchValue", "new"), values.define, "new", "1 +", 1)
        self.check_refused(values, ("InvalidFormula", 3), values.define, "new", "1 +")
        self.check_refused(values, ("InvalidFormula", 4), values.define, "new", "1 + new")
        self.check_refused(values, ("InvalidFormula", 3), values.define, "v1", "1 +", 1)
        self.check_refused(values, ("InvalidFormula", 0), values.define, "v1", "v1", 1)
        self.check_refused(values, ("TooMany", "values"), values.define, "new", "1")

    def test_a_new_value_needs_the_configuration_0(self):
        values = Values()
        values.add_configuration(0)
        self.check_refused(values, ("NoSuchValue", "a"), values.define, "a", "1", 1)
        values.choose(1)
        values.define("a", "1")
        self.assertEqual(values.formula("a", 1), "1")

    def test_what_is_returned_is_a_copy(self):
        values = Values()
        values.define("a", "1")
        values.names().append("b")
        self.assertEqual(values.names(), ["a"])


class Point21(Checked):
    """No value needs itself in any configuration."""

    def test_straight(self):
        values = Values()
        self.check_refused(values, ("InvalidFormula", 0), values.define, "a", "a")
        self.check_refused(values, ("InvalidFormula", 5), values.define, "a", "1 + (a)")
        values.define("a", "1")
        self.check_refused(values, ("InvalidFormula", 4), values.define, "a", "1 ? a : 2")
        self.assertEqual(values.value("a"), (1, 1, 0))

    def test_through_others(self):
        values = Values()
        values.define("a", "b + 1")
        values.define("b", "c + d")
        self.check_refused(values, ("InvalidFormula", 0), values.define, "c", "a")
        self.check_refused(values, ("InvalidFormula", 4), values.define, "c", "1 + b")
        self.check_refused(values, ("InvalidFormula", 8), values.define, "d", "e + 1 + b * a")
        values.define("c", "e")
        self.check_refused(values, ("InvalidFormula", 4), values.define, "e", "d + c")
        values.define("e", "1")
        values.define("d", "e")
        self.assertEqual(values.value("a"), (3, 1, 0))

    def test_the_first_token_counts(self):
        values = Values()
        values.define("a", "b")
        self.check_refused(values, ("InvalidFormula", 5), values.define, "b", "x +  a + b + a")
        self.check_refused(values, ("InvalidFormula", 4), values.define, "b", "x + b + a")

    def test_names_that_are_not_evaluated_are_needed_too(self):
        values = Values()
        values.define("a", "1 ? 2 : b")
        self.check_refused(values, ("InvalidFormula", 8), values.define, "b", "0 ? 1 : a")

    def test_names_that_are_no_values_are_allowed(self):
        values = Values()
        values.define("a", "b + c")
        self.check_refused(values, ("InvalidFormula", 0), values.define, "b", "a")
        self.check_refused(values, ("InvalidFormula", 0), values.define, "c", "a")
        values.define("b", "c")
        self.assertEqual(refusal(values.value, "a"), ("Fault", "value"))

    def test_in_the_configuration_itself(self):
        values = Values()
        values.define("a", "1")
        values.define("b", "a")
        values.add_configuration(0)
        self.check_refused(values, ("InvalidFormula", 0), values.define, "a", "b", 1)
        values.define("b", "1", 1)
        values.define("a", "b", 1)
        self.check_refused(values, ("InvalidFormula", 0), values.define, "a", "b")
        self.check_refused(values, ("InvalidFormula", 2), values.define, "b", "0+a", 1)

    def test_in_a_configuration_further_on(self):
        values = Values()
        values.define("a", "1")
        values.define("b", "1")
        for base in (0, 1, 2):
            values.add_configuration(base)
        values.define("b", "a", 3)
        self.check_refused(values, ("InvalidFormula", 4), values.define, "a", "2 * b", 0)
        self.check_refused(values, ("InvalidFormula", 4), values.define, "a", "2 * b", 1)
        self.check_refused(values, ("InvalidFormula", 4), values.define, "a", "2 * b", 2)
        self.check_refused(values, ("InvalidFormula", 4), values.define, "a", "2 * b", 3)
        values.define("a", "7", 2)
        values.define("a", "2 * b", 0)
        values.define("a", "3 * b", 1)
        self.check_refused(values, ("InvalidFormula", 4), values.define, "a", "4 * b", 2)
        values.choose(3)
        self.assertEqual(values.value("b"), (7, 1, 0))

    def test_a_configuration_on_another_branch_does_not_count(self):
        values = Values()
        values.define("a", "1")
        values.define("b", "1")
        values.add_configuration(0)
        values.add_configuration(0)
        values.define("b", "a", 2)
        values.define("a", "b", 1)
        self.assertEqual(values.formula("a", 1), "b")
        self.check_refused(values, ("InvalidFormula", 0), values.define, "a", "b", 2)

    def test_a_new_value_counts_in_every_configuration(self):
        values = Values()
        values.define("a", "1")
        values.add_configuration(0)
        values.define("a", "new", 1)
        self.check_refused(values, ("InvalidFormula", 4), values.define, "new", "1 + a")
        values.define("new", "1")
        self.assertEqual(values.value("new"), (1, 1, 0))

    def test_the_first_token_of_all_configurations_counts(self):
        values = Values()
        for name in "abc":
            values.define(name, "1")
        values.add_configuration(0)
        values.define("b", "a", 0)
        values.define("b", "1", 1)
        values.define("c", "a", 1)
        self.check_refused(values, ("InvalidFormula", 0), values.define, "a", "c + b")
        self.check_refused(values, ("InvalidFormula", 0), values.define, "a", "b + c")

    def test_own_formulas_can_take_turns(self):
        values = Values()
        values.define("a", "1")
        values.define("b", "a")
        values.add_configuration(0)
        values.define("b", "1", 1)
        values.define("a", "b", 1)
        values.choose(1)
        self.assertEqual([values.value("a"), values.value("b")], [(1, 1, 0), (1, 1, 0)])

    def test_a_redefined_formula_forgets_what_it_needed(self):
        values = Values()
        values.define("a", "b")
        values.define("a", "1")
        values.define("b", "a")
        self.assertEqual(values.value("b"), (1, 1, 0))


if __name__ == "__main__":
    unittest.main()
