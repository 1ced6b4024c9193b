"""Point 59: a market for room in blocks."""

import random
import unittest
from fractions import Fraction
from math import floor

from vaultbridge.errors import InvalidArgument
from vaultbridge.market import choose, next_price


class ChooseTest(unittest.TestCase):

    def told(self, tips, room):
        """A second telling: the best one of those that are left, again and again."""
        left = dict(enumerate(tips))
        chosen = []
        while left and len(chosen) < room:
            best = min(index for index in left if left[index] == max(left.values()))
            chosen.append(best)
            del left[best]
        return sorted(chosen)

    def test_by_hand(self):
        self.assertEqual(choose([], 0), [])
        self.assertEqual(choose([], 5), [])
        self.assertEqual(choose([4, 9, 4, 1], 0), [])
        self.assertEqual(choose([4, 9, 4, 1], 1), [1])
        self.assertEqual(choose([4, 9, 4, 1], 2), [0, 1])
        self.assertEqual(choose([1, 4, 9, 4], 2), [1, 2])
        self.assertEqual(choose([4, 9, 4, 1], 3), [0, 1, 2])
        for room in (4, 5, 10 ** 30):
            self.assertEqual(choose([4, 9, 4, 1], room), [0, 1, 2, 3])
        self.assertEqual(choose([-1, -5, 0, -1], 2), [0, 2])
        self.assertEqual(choose([7] * 6, 3), [0, 1, 2])

    def test_drawn_tips(self):
        source = random.Random(59)
        for _ in range(3000):
            most = source.choice([0, 1, 3, 10 ** 30])
            tips = [source.randint(-most, most) for _ in range(source.randint(0, 12))]
            room = source.choice([source.randint(0, 14), 10 ** 20])
            before = list(tips)
            found = choose(tips, room)
            self.assertIs(type(found), list)
            self.assertEqual(found, self.told(tips, room))
            self.assertEqual(tips, before)


class PriceTest(unittest.TestCase):

    def told(self, price, used, room):
        """A second telling, with exact fractions of the price."""
        change = Fraction(price * abs(2 * used - room), 8 * room)
        if 2 * used > room:
            return price + max(1, floor(change))
        return max(1, price - floor(change))

    def test_by_hand(self):
        for price, used, room, wanted in (
                (100, 5, 10, 100), (100, 10, 10, 112), (100, 0, 10, 88), (100, 6, 10, 102), (100, 4, 10, 98),
                (1, 10, 10, 2), (1, 6, 10, 2), (1, 5, 10, 1), (1, 0, 10, 1), (7, 0, 10, 7), (8, 0, 10, 7),
                (15, 10, 10, 16), (16, 10, 10, 18), (100, 1, 1, 112), (100, 0, 1, 88), (100, 1, 3, 96),
                (100, 2, 3, 104), (10 ** 30, 2, 2, 10 ** 30 * 9 // 8)):
            self.assertEqual(next_price(price, used, room), wanted, (price, used, room))

    def test_each_small_one(self):
        for price in list(range(1, 40)) + [99, 1000, 12345]:
            for room in range(1, 13):
                for used in range(room + 1):
                    found = next_price(price, used, room)
                    self.assertEqual(found, self.told(price, used, room), (price, used, room))
                    self.assertGreaterEqual(found, 1)
                    self.assertEqual((found > price), 2 * used > room)

    def test_drawn_ones(self):
        source = random.Random(60)
        for _ in range(3000):
            room = source.randint(1, source.choice([2, 10, 1000, 10 ** 20]))
            price = source.randint(1, source.choice([10, 1000, 10 ** 40]))
            used = source.choice([0, room, room // 2, (room + 1) // 2, source.randint(0, room)])
            self.assertEqual(next_price(price, used, room), self.told(price, used, room))

    def test_wrong_numbers(self):
        for price, used, room in ((0, 1, 2), (-1, 1, 2), (5, 0, 0), (5, 0, -1), (5, -1, -1), (5, -1, 4), (5, 5, 4),
                                  (5, 10 ** 30, 4), (0, 0, 0), (0, 9, 4), (5, 1, 0)):
            with self.assertRaises(InvalidArgument, msg=(price, used, room)) as held:
                next_price(price, used, room)
            self.assertIs(type(held.exception), InvalidArgument)


if __name__ == "__main__":
    unittest.main()
