"""Points 26 and 61: plans."""

import random
import unittest

from tests.bench import Bench
from vaultbridge.errors import LimitReached
from vaultbridge.plan import plan


def told_plan(limit, window, units):
    """A second telling: height by height."""
    passed, found, height = [], [], 0
    for many in units:
        if many > limit:
            found.append(None)
            continue
        while sum(part for at, part in passed if at > height - window) + many > limit:
            height += 1
        passed.append((height, many))
        found.append(height)
    return found


class PlanTest(unittest.TestCase):

    def test_by_hand(self):
        self.assertEqual(plan(10, 3, []), [])
        self.assertEqual(plan(10, 3, [10]), [0])
        self.assertEqual(plan(10, 3, [4, 6]), [0, 0])
        self.assertEqual(plan(10, 3, [4, 6, 1]), [0, 0, 3])
        self.assertEqual(plan(10, 3, [4, 7, 3, 4]), [0, 3, 3, 6])
        self.assertEqual(plan(10, 1, [10, 10, 10]), [0, 1, 2])
        self.assertEqual(plan(10, 5, [10, 10, 10]), [0, 5, 10])
        # the one that follows waits for the first one alone
        self.assertEqual(plan(10, 3, [5, 5, 10, 1, 9, 2]), [0, 0, 3, 6, 6, 9])
        self.assertEqual(plan(10, 3, [11, 4, 12, 6, 99, 1]), [None, 0, None, 0, None, 3])
        self.assertEqual(plan(0, 3, [1, 2, 50]), [None, None, None])
        self.assertEqual(plan(1, 2, [1, 1, 2, 1]), [0, 2, None, 4])

    def test_drawn_plans(self):
        source = random.Random(61)
        for _ in range(3000):
            limit, window = source.choice([source.randint(0, 40), source.randint(20, 40)]), source.randint(1, 5)
            most = source.choice([3, 10, 20, 50])
            units = [source.randint(1, most) for _ in range(source.randint(0, 15))]
            before = list(units)
            found = plan(limit, window, units)
            self.assertEqual(units, before)
            self.assertIs(type(found), list)
            self.assertEqual(found, told_plan(limit, window, units))
            self.check(limit, window, units, found)

    def check(self, limit, window, units, found):
        """The heights do not fall, no window has too much, and none could be one less."""
        self.assertEqual([height is None for height in found], [many > limit for many in units])
        passed = [(height, many) for height, many in zip(found, units) if height is not None]
        heights = [0] + [height for height, _ in passed]
        self.assertEqual(heights, sorted(heights))
        for start in range(heights[-1] + 1):
            self.assertLessEqual(sum(many for height, many in passed if start <= height < start + window), limit)
        for at, (height, many) in enumerate(passed):
            if height > heights[at]:
                inside = sum(part for other, part in passed[:at] if other > height - 1 - window)
                self.assertGreater(inside + many, limit)

    def test_large_numbers(self):
        large = 10 ** 30
        self.assertEqual(plan(large, large, [large] * 50), [large * turn for turn in range(50)])
        self.assertEqual(plan(large, 1, [1] * 2000), [0] * 2000)
        self.assertEqual(plan(3, large, [1] * 9), [0] * 3 + [large] * 3 + [2 * large] * 3)


class GatewayTest(Bench):
    """A plan against the gateway itself."""

    def deliver(self, number, many):
        return ("deliver", "west", number, ("gold", many, 0, "ann", "ben", 10 ** 6))

    def check_plan(self, limit, window, units):
        self.begin("east", tokens=[("gold", "west", 1, limit, 10 ** 6)], balances=[], window=window)
        for number, (height, many) in enumerate(zip(plan(limit, window, units), units)):
            if height is None:
                self.fail_to_take(LimitReached, self.deliver(number, many))
                continue
            while self.state.height() < height:
                # at no height below the planned one
                self.fail_to_take(LimitReached, self.deliver(number, many))
                self.rise()
            self.assertEqual(self.state.height(), height)
            self.assertEqual(self.take(self.deliver(number, many))[0][0], "delivered")

    def test_each_transfer_passes_at_its_height_and_at_none_before(self):
        source = random.Random(62)
        for _ in range(60):
            limit, window = source.randint(0, 40), source.randint(1, 5)
            self.check_plan(limit, window, [source.randint(1, source.choice([5, 20, 50])) for _ in range(8)])


if __name__ == "__main__":
    unittest.main()
