"""Point 48: digests."""

import random
import unittest

from tests.bench import inside
from tests.test_notation import drawn_value, nested, same_kinds
from vaultbridge.digests import Digests
from vaultbridge.errors import UnknownDigest


class DigestsTest(unittest.TestCase):

    def test_numbers_in_the_order_in_which_values_come_first(self):
        digests = Digests()
        self.assertEqual(digests.count(), 0)
        values = ["a", 7, (), ("a", 7), "", -7, (("a",), 7)]
        for number, value in enumerate(values):
            self.assertEqual(digests.number(value), number)
            self.assertEqual(digests.count(), number + 1)
            self.assertEqual(digests.number(values[0]), 0)
        self.assertEqual([digests.number(value) for value in values[::-1]], [6, 5, 4, 3, 2, 1, 0])
        self.assertEqual([digests.value(number) for number in range(7)], values)
        self.assertEqual(digests.count(), 7)

    def test_values_that_look_alike(self):
        values = [5, "5", (5,), ("5",), "(5)", "1:5", 0, "0", "", (), "()", ((),), ((), ()), (((),),), ("",), ("", ""),
                  (1, 2, 3), ((1, 2), 3), (1, (2, 3)), ((1, 2, 3),), ("1,2",), ("1", "2"), (1, 2), "a", ("a",), "a ",
                  -1, 1, "-1", 10 ** 50, 10 ** 50 + 1, ("leaf", 1), ("node", 1), ("leaf", "1")]
        digests = Digests()
        self.assertEqual([digests.number(value) for value in values], list(range(len(values))))
        for number, value in enumerate(values):
            self.assertEqual(digests.value(number), value)
            self.assertTrue(same_kinds(digests.value(number), value))

    def test_values_without_bounds(self):
        values = [nested(depth) for depth in (9, 10, 11, 12, 200)] + [10 ** 45, "a" * 5000, ("a" * 5000,)]
        values += [10 ** 4400, -(10 ** 4400), 10 ** 4400 + 1, (10 ** 4400,), (1, (10 ** 9000, "a"))]
        values += [nested(20, (1,)), nested(20, ("1",)), nested(20, (1, 1))]
        digests = Digests()
        for _ in range(2):
            self.assertEqual([digests.number(value) for value in values], list(range(len(values))))
        self.assertEqual([digests.value(number) for number in range(len(values))], values)

    def test_unknown_numbers(self):
        digests = Digests()
        for many in range(3):
            before = inside(digests)
            for number in (-1, -many, many, many + 1, 99, -99):
                if not 0 <= number < many:
                    with self.assertRaises(UnknownDigest) as held:
                        digests.value(number)
                    self.assertIs(type(held.exception), UnknownDigest)
            self.assertEqual(inside(digests), before)
            digests.number(many)

    def test_asking_for_a_value_adds_nothing(self):
        digests = Digests()
        digests.number("a")
        digests.value(0)
        self.assertEqual(digests.count(), 1)

    def test_drawn_values(self):
        source, digests, values = random.Random(48), Digests(), []
        for _ in range(3000):
            value = drawn_value(source, source.choice([1, 2, 10]))
            known = [number for number, other in enumerate(values[-400:], max(0, len(values) - 400)) if other == value]
            number = digests.number(value)
            if number == len(values):
                self.assertEqual(known, [])
                values.append(value)
            self.assertEqual(values[number], value)
            self.assertTrue(same_kinds(digests.value(number), value))
            self.assertEqual(digests.count(), len(values))
        self.assertGreater(len(values), 1000)
        self.assertLess(len(values), 2900)

    def test_tables_are_apart(self):
        one, other = Digests(), Digests()
        one.number("a")
        self.assertEqual((other.count(), other.number("b"), one.number("b")), (0, 0, 1))


if __name__ == "__main__":
    unittest.main()
