"""Point 155: pasts."""

import random
import unittest

from partloft.pasts import Past


class PlainPast:
    """All texts in one list, and the index of the present one."""

    def __init__(self, text, limit):
        self.texts = [text]
        self.at = 0
        self.limit = limit

    def add(self, text):
        self.texts = (self.texts[:self.at + 1] + [text])[-self.limit - 1:]
        self.at = len(self.texts) - 1

    def go(self, by):
        if not 0 <= self.at + by < len(self.texts):
            return False
        self.at += by
        return True

    def seen(self):
        return (self.texts[self.at], self.at, len(self.texts) - self.at - 1)


def seen(past):
    return (past.present(), past.before(), past.after())


class Point155(unittest.TestCase):
    def test_a_new_past(self):
        past = Past("a", 3)
        self.assertEqual(seen(past), ("a", 0, 0))
        self.assertIs(past.back(), False)
        self.assertIs(past.forward(), False)
        self.assertEqual(seen(past), ("a", 0, 0))

    def test_back_and_forward(self):
        past = Past("a", 10)
        self.assertIsNone(past.add("b"))
        past.add("c")
        self.assertEqual(seen(past), ("c", 2, 0))
        self.assertIs(past.back(), True)
        self.assertEqual(seen(past), ("b", 1, 1))
        self.assertIs(past.back(), True)
        self.assertEqual(seen(past), ("a", 0, 2))
        self.assertIs(past.back(), False)
        self.assertEqual(seen(past), ("a", 0, 2))
        self.assertIs(past.forward(), True)
        self.assertEqual(seen(past), ("b", 1, 1))
        self.assertIs(past.forward(), True)
        self.assertIs(past.forward(), False)
        self.assertEqual(seen(past), ("c", 2, 0))

    def test_a_new_text_forgets_those_after_the_present_one(self):
        past = Past("a", 10)
        for text in "bcd":
            past.add(text)
        past.back()
        past.back()
        past.add("e")
        self.assertEqual(seen(past), ("e", 2, 0))
        self.assertIs(past.forward(), False)
        past.back()
        self.assertEqual(seen(past), ("b", 1, 1))

    def test_a_new_text_may_be_equal_to_the_present_one(self):
        past = Past("a", 10)
        past.add("b")
        past.back()
        past.add("a")
        self.assertEqual(seen(past), ("a", 1, 0))
        past.add("a")
        self.assertEqual(seen(past), ("a", 2, 0))
        past.back()
        past.add("a")
        self.assertEqual(seen(past), ("a", 2, 0))

    def test_the_limit(self):
        for limit in (1, 2, 5):
            past = Past("0", limit)
            for number in range(1, 9):
                past.add(str(number))
                self.assertEqual(seen(past), (str(number), min(number, limit), 0))
            for back in range(1, limit + 1):
                self.assertIs(past.back(), True)
                self.assertEqual(seen(past), (str(8 - back), limit - back, back))
            self.assertIs(past.back(), False)
            for _ in range(limit):
                self.assertIs(past.forward(), True)
            self.assertEqual(seen(past), ("8", limit, 0))

    def test_the_limit_1(self):
        past = Past("a", 1)
        past.add("b")
        past.add("c")
        self.assertEqual(seen(past), ("c", 1, 0))
        past.back()
        self.assertEqual(seen(past), ("b", 0, 1))
        past.add("d")
        self.assertEqual(seen(past), ("d", 1, 0))
        past.back()
        self.assertEqual(seen(past), ("b", 0, 1))

    def test_the_greatest_limit(self):
        past = Past("0", 1000)
        for number in range(1, 1501):
            past.add(str(number))
        self.assertEqual(seen(past), ("1500", 1000, 0))
        for _ in range(1000):
            self.assertIs(past.back(), True)
        self.assertIs(past.back(), False)
        self.assertEqual(seen(past), ("500", 0, 1000))

    def test_empty_texts_are_texts(self):
        past = Past("", 2)
        past.add("")
        self.assertIs(past.back(), True)
        self.assertEqual(seen(past), ("", 0, 1))

    def test_by_chance(self):
        rng = random.Random(3)
        for limit in (1, 2, 3, 7):
            past, plain = Past("first", limit), PlainPast("first", limit)
            for step in range(600):
                choice = rng.randrange(3)
                if choice == 0:
                    past.add(str(step))
                    plain.add(str(step))
                elif choice == 1:
                    self.assertIs(past.back(), plain.go(-1))
                else:
                    self.assertIs(past.forward(), plain.go(1))
                self.assertEqual(seen(past), plain.seen())


if __name__ == "__main__":
    unittest.main()
