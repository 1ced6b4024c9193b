"""Point 43: bags."""

import random
import unittest

from tests.bench import inside
from vaultbridge.bag import Bag
from vaultbridge.errors import InvalidArgument


class BagTest(unittest.TestCase):

    def filled(self, *items):
        bag = Bag()
        for item in items:
            self.assertIsNone(bag.post(item))
        return bag

    def test_posting(self):
        self.assertEqual(Bag().items_under_way(), [])
        self.assertEqual(self.filled(4, 2, 4, 0, -1).items_under_way(), [4, 2, 4, 0, -1])

    def test_by_hand(self):
        bag = self.filled(7, 8, 9)
        self.assertEqual(bag.hand_over(1), 8)
        self.assertEqual(bag.items_under_way(), [7, 9])
        self.assertIsNone(bag.double(0))
        self.assertEqual(bag.items_under_way(), [7, 9, 7])
        self.assertIsNone(bag.lose(0))
        self.assertEqual(bag.items_under_way(), [9, 7])
        self.assertEqual((bag.hand_over(0), bag.hand_over(0)), (9, 7))
        self.assertEqual(bag.items_under_way(), [])

    def test_there_is_no_such_index(self):
        for items in ((), (5,), (5, 6, 7)):
            bag = self.filled(*items)
            before = inside(bag)
            for index in (-1, len(items), len(items) + 1, -len(items) - 1):
                for deed in (bag.hand_over, bag.lose, bag.double):
                    with self.assertRaises(InvalidArgument) as held:
                        deed(index)
                    self.assertIs(type(held.exception), InvalidArgument)
                    self.assertEqual(inside(bag), before)

    def test_the_list_is_a_new_one_each_time(self):
        bag = self.filled(1, 2)
        bag.items_under_way().append(3)
        bag.items_under_way().clear()
        self.assertEqual(bag.items_under_way(), [1, 2])
        self.assertIsNot(bag.items_under_way(), bag.items_under_way())

    def test_drawn_deeds(self):
        for seed in range(20):
            source, bag, told = random.Random(seed), Bag(), []
            for item in range(80):
                deed, index = source.choice(["post", "hand_over", "lose", "double"]), source.randint(0, 9)
                if deed == "post":
                    bag.post(item)
                    told = told + [item]
                elif index < len(told):
                    found = getattr(bag, deed)(index)
                    self.assertEqual(found, told[index] if deed == "hand_over" else None)
                    rest = told[:index] + told[index + 1:]
                    told = told + [told[index]] if deed == "double" else rest
                self.assertEqual(bag.items_under_way(), told)


if __name__ == "__main__":
    unittest.main()
