"""Points 16, 17 and 18: expressions are evaluated with values."""

import unittest

from helping import refusal
from partloft.formulas import read_formula
from partloft.values import Values, evaluate, whole_number


def table(**formulas):
    values = Values()
    for name, text in formulas.items():
        values.define(name, text)
    return values


class Evaluating(unittest.TestCase):
    def check(self, text, wanted, values=None):
        """Wanted is a quantity, or the word of a fault."""
        used = Values() if values is None else values
        expression = read_formula(text)
        with self.subTest(text):
            if isinstance(wanted, str):
                self.assertEqual(refusal(evaluate, expression, used), ("Fault", wanted))
            else:
                self.assertEqual(evaluate(expression, used), wanted)


class Point17(Evaluating):
    """Every sign and every function, by way of formulas."""

    def test_the_example_of_the_document(self):
        self.check("2 in / 4", (127, 10, 1))
        self.check("round(-3 / 2)", (-1, 1, 0))

    def test_signs(self):
        self.check("1 mm + 2 cm", (21, 1, 1))
        self.check("1 mm - 2 cm", (-19, 1, 1))
        self.check("3 mm * 2 mm", (6, 1, 2))
        self.check("3 mm / 2 cm", (3, 20, 0))
        self.check("3 / 2 mm", (3, 2, -1))
        self.check("1 cm == 10 mm", (1, 1, 0))
        self.check("1 cm != 10 mm", (0, 1, 0))
        self.check("1 in < 26 mm", (1, 1, 0))
        self.check("1 in <= 25 mm", (0, 1, 0))
        self.check("1 in > 25 mm", (1, 1, 0))
        self.check("1 in >= 26 mm", (0, 1, 0))
        self.check("2 && -1", (1, 1, 0))
        self.check("0 || 0", (0, 1, 0))
        self.check("0 || 0.5", (1, 1, 0))
        self.check("-5 mm", (-5, 1, 1))
        self.check("!5", (0, 1, 0))
        self.check("!!5", (1, 1, 0))
        self.check("1 < 2 < 2", (1, 1, 0))
        self.check("8 / 4 / 2", (1, 1, 0))
        self.check("8 - 4 - 2", (2, 1, 0))

    def test_functions(self):
        self.check("min(1 cm, 2 mm)", (2, 1, 1))
        self.check("max(1 cm, 2 mm)", (10, 1, 1))
        self.check("mid(3, 1, 2)", (2, 1, 0))
        self.check("mod(-7 mm, 2 mm)", (1, 1, 1))
        self.check("div(-7 mm, 2 mm)", (-4, 1, 0))
        self.check("abs(-7 mm)", (7, 1, 1))
        self.check("floor(-7 mm / 2)", (-4, 1, 1))
        self.check("ceil(-7 mm / 2)", (-3, 1, 1))
        self.check("round(7 mm / 2)", (4, 1, 1))
        self.check("sign(-7 mm)", (-1, 1, 0))
        self.check("sqr(-7 mm)", (49, 1, 2))

    def test_kinds_that_do_not_fit(self):
        for text in ("1 + 1 mm", "1 mm == 1", "min(1, 1 mm)", "mid(1, 2, 1 mm)", "mod(1 mm, 1)", "div(1, 1 mm)",
                     "!1 mm", "1 mm && 1", "0 && 1 mm", "1 || 1 mm", "1 mm ? 1 : 2", "sqr(sqr(1 mm)) * 1 mm",
                     "sqr(sqr(sqr(1 mm)))", "1 / sqr(sqr(1 mm)) / 1 mm"):
            self.check(text, "kinds")

    def test_divisions_by_zero(self):
        for text in ("1 / 0", "1 mm / (2 - 2)", "div(1 mm, 0 mm)", "mod(1, 0)", "0 / 0"):
            self.check(text, "zero")

    def test_results_beyond_the_bounds(self):
        for text in ("99999 * 99999", "sqr(99999)", "1 / 99999 / 99999", "div(99999, 0.0001) * 2 * 2",
                     "-99999 * 99999", "1 / 99991 + 1 / 99989", "div(99999, 1 / 99999)"):
            self.check(text, "big")
        self.check("mod(99999, 1 / 99999)", (0, 1, 0))

    def test_the_condition_of_a_choice(self):
        self.check("2 ? 1 mm : 3", (1, 1, 1))
        self.check("-0.5 ? 1 mm : 3", (1, 1, 1))
        self.check("0 ? 1 mm : 3", (3, 1, 0))
        self.check("0 mm ? 1 : 2", "kinds")
        self.check("1 / 0 ? 1 : 2", "zero")

    def test_only_the_chosen_formula_is_evaluated(self):
        self.check("1 ? 2 : 1 / 0", (2, 1, 0))
        self.check("0 ? 1 / 0 : 2", (2, 1, 0))
        self.check("1 ? 2 : nothing", (2, 1, 0))
        self.check("0 ? 1 mm + 1 : 2", (2, 1, 0))
        self.check("1 ? 1 / 0 : 2", "zero")
        self.check("0 ? 2 : 1 / 0", "zero")
        self.check("1 ? 0 ? nothing : 5 : nothing", (5, 1, 0))

    def test_and_and_or_look_at_both_operands(self):
        self.check("0 && 1 / 0", "zero")
        self.check("1 || 1 / 0", "zero")
        self.check("0 && nothing", "value")
        self.check("1 || nothing", "value")


class Point16(Evaluating):
    """Which fault is the result, and names."""

    def test_the_first_fault_that_is_met(self):
        self.check("1 / 0 + nothing", "zero")
        self.check("nothing + 1 / 0", "value")
        self.check("(1 + 1 mm) * (1 / 0)", "kinds")
        self.check("(1 / 0) * (1 + 1 mm)", "zero")
        self.check("1 mm + 1 / 0", "zero")
        self.check("1 mm + sqr(99999)", "big")
        self.check("min(1 mm, 1 / 0)", "zero")
        self.check("mid(1, 1 mm, nothing)", "value")
        self.check("mid(1 / 0, 1 mm, nothing)", "zero")
        self.check("(0 && 1 mm) + nothing", "kinds")
        self.check("-(1 / 0) + nothing", "zero")
        self.check("(1 / 0 ? 1 : 2) + nothing", "zero")
        self.check("sqr(99999) ? nothing : nothing", "big")

    def test_the_first_of_several_faults_of_an_operation(self):
        self.check("sqr(sqr(1 mm)) / (0 / 1 mm)", "kinds")
        self.check("mod(1 mm, 0)", "kinds")
        self.check("div(1, 0 mm)", "kinds")
        self.check("sqr(99999 mm * 1 mm * 1 mm)", "kinds")
        self.check("99999 * 9999 / 0", "zero")

    def test_names_of_values(self):
        values = table(a="3 mm", b="a * 2", c="b - a", bad="1 / 0", worse="bad + 1", lost="nothing", odd="1 ? 2 : bad")
        self.check("a", (3, 1, 1), values)
        self.check("a + b + c", (12, 1, 1), values)
        self.check("nothing", "value", values)
        self.check("bad", "value", values)
        self.check("worse", "value", values)
        self.check("lost", "value", values)
        self.check("odd", (2, 1, 0), values)
        self.check("1 ? a : bad", (3, 1, 1), values)
        self.check("bad ? 1 : 2", "value", values)
        self.check("A", "value", values)

    def test_the_fault_of_a_value(self):
        values = table(bad="1 / 0", worse="bad + 1", lost="nothing", odd="1 + 1 mm", big="sqr(99999)")
        wanted = {"bad": "zero", "worse": "value", "lost": "value", "odd": "kinds", "big": "big"}
        for name, word in wanted.items():
            self.assertEqual(refusal(values.value, name), ("Fault", word))

    def test_names_become_values_later(self):
        values = table(a="b + 1")
        self.check("a", "value", values)
        values.define("b", "2")
        self.check("a", (3, 1, 0), values)
        values.define("b", "0.5")
        self.check("a", (3, 2, 0), values)

    def test_the_chosen_configuration_counts(self):
        values = table(a="1", b="a + 1")
        values.add_configuration(0)
        values.define("a", "10", 1)
        self.check("b", (2, 1, 0), values)
        values.choose(1)
        self.check("b", (11, 1, 0), values)
        self.assertEqual(values.value("b"), (11, 1, 0))
        self.assertEqual(whole_number(read_formula("a"), values), 10)

    def test_each_value_is_evaluated_once(self):
        values = table(v0="1")
        for number in range(1, 40):
            low = "v" + str(number - 1)
            values.define("v" + str(number), "min(" + low + " + " + low + " - " + low + ", " + low + ")")
        self.assertEqual(values.value("v39"), (1, 1, 0))
        self.check("v39 + v39", (2, 1, 0), values)

    def test_long_rows_of_long_formulas(self):
        values = table(v0="1")
        for number in range(1, 40):
            values.define("v" + str(number), "v" + str(number - 1) + "+0" * 115)
        self.assertEqual(values.value("v39"), (1, 1, 0))
        self.check("1" + "+1" * 119, (120, 1, 0))
        self.check("-" * 24 + "1" + "+(1" * 24 + ")" * 24, (25, 1, 0))

    def test_values_that_are_not_reached_stay_out(self):
        values = table(a="1", b="0 ? a / 0 : a")
        self.assertEqual(values.value("b"), (1, 1, 0))


class Point18(unittest.TestCase):
    """Whole numbers."""

    def check(self, text, wanted):
        with self.subTest(text):
            found = whole_number(read_formula(text), table(bad="1 / 0", a="7 mm"))
            self.assertEqual(found, wanted)
            if wanted is not None:
                self.assertIs(type(found), int)

    def test_bounds(self):
        self.check("200", 200)
        self.check("-200", -200)
        self.check("201", None)
        self.check("-201", None)
        self.check("0", 0)
        self.check("20 cm", 200)
        self.check("-200 mm", -200)
        self.check("201 mm", None)
        self.check("99999 * 9999", None)

    def test_kinds(self):
        self.check("a", 7)
        self.check("sqr(a)", None)
        self.check("1 / a", None)
        self.check("1 / (1 mm)", None)
        self.check("1 mm * 1 mm", None)
        self.check("4 mm / 2 mm", 2)
        self.check("a == a", 1)

    def test_fractions(self):
        self.check("1 / 2", None)
        self.check("400 / 2", 200)
        self.check("200.5", None)
        self.check("2.0", 2)
        self.check("1 in", None)
        self.check("5 in", 127)
        self.check("0.5 + 0.5", 1)

    def test_faults(self):
        self.check("1 / 0", None)
        self.check("nothing", None)
        self.check("bad", None)
        self.check("1 + 1 mm", None)
        self.check("sqr(99999)", None)


class Point3(unittest.TestCase):
    def test_questions_change_nothing(self):
        values = table(a="1", b="a / 0")
        expression = read_formula("a + b")
        before = (repr(expression), values.names(), values.formula("b", 0), values.chosen())
        refusal(evaluate, expression, values)
        whole_number(expression, values)
        self.assertEqual((repr(expression), values.names(), values.formula("b", 0), values.chosen()), before)


if __name__ == "__main__":
    unittest.main()
