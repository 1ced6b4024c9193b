"""Point 58: pools."""

import random
import unittest
from fractions import Fraction

from tests.bench import inside
from vaultbridge.errors import InvalidArgument, NotEnoughBalance
from vaultbridge.pool import Pool

NAMES = ["ann", "ben", "cat", "dan"]


class ToldPool:
    """A second telling of a pool; each deed returns what the pool is to return, or the error."""

    def __init__(self):
        self.assets, self.held = 0, {name: 0 for name in NAMES}

    def shares(self):
        return sum(self.held.values())

    def deposit(self, account, amount):
        if amount < 1:
            return InvalidArgument
        worth = Fraction(amount * self.shares(), self.assets) if self.shares() else amount
        count = int(worth)
        if count == 0:
            return InvalidArgument
        self.assets += amount
        self.held[account] += count
        return count

    def redeem(self, account, count):
        if count < 1:
            return InvalidArgument
        if self.held[account] < count:
            return NotEnoughBalance
        amount = int(Fraction(count * self.assets, self.shares()))
        self.assets -= amount
        self.held[account] -= count
        return amount

    def earn(self, amount):
        if amount < 1 or not self.shares():
            return InvalidArgument
        self.assets += amount
        return None


class PoolTest(unittest.TestCase):

    def setUp(self):
        self.pool = Pool()

    def refuses(self, error, deed, *arguments):
        before = inside(self.pool)
        with self.assertRaises(error) as held:
            getattr(self.pool, deed)(*arguments)
        self.assertIs(type(held.exception), error)
        self.assertEqual(inside(self.pool), before)

    def has(self, assets, shares, **held):
        self.assertEqual((self.pool.assets(), self.pool.shares()), (assets, shares))
        self.assertEqual({name: self.pool.shares_of(name) for name in held}, held)

    def test_by_hand(self):
        self.has(0, 0, ann=0, ben=0)
        self.assertEqual(self.pool.deposit("ann", 10), 10)
        self.has(10, 10, ann=10, ben=0)
        self.assertIsNone(self.pool.earn(5))
        self.has(15, 10, ann=10)
        # 4 * 10 / 15 is 2.67
        self.assertEqual(self.pool.deposit("ben", 4), 2)
        self.has(19, 12, ann=10, ben=2)
        # 3 * 19 / 12 is 4.75
        self.assertEqual(self.pool.redeem("ann", 3), 4)
        self.has(15, 9, ann=7, ben=2)
        self.assertEqual(self.pool.redeem("ben", 2), 3)
        self.assertEqual(self.pool.redeem("ann", 7), 12)
        self.has(0, 0, ann=0, ben=0)
        self.assertEqual(self.pool.deposit("ben", 6), 6)
        self.has(6, 6, ann=0, ben=6)

    def test_wrong_numbers(self):
        for deed in ("deposit", "redeem"):
            for number in (0, -1, -10 ** 30):
                self.refuses(InvalidArgument, deed, "ann", number)
        for number in (1, 5, 0, -1):
            self.refuses(InvalidArgument, "earn", number)
        self.refuses(NotEnoughBalance, "redeem", "ann", 1)
        self.pool.deposit("ann", 3)
        for number in (0, -1):
            self.refuses(InvalidArgument, "earn", number)
            self.refuses(InvalidArgument, "redeem", "ann", number)
            self.refuses(InvalidArgument, "redeem", "nobody", number)
        self.refuses(NotEnoughBalance, "redeem", "ann", 4)
        self.refuses(NotEnoughBalance, "redeem", "nobody", 1)
        self.assertEqual(self.pool.redeem("ann", 3), 3)
        self.refuses(InvalidArgument, "earn", 1)

    def test_amounts_that_are_worth_no_share(self):
        self.pool.deposit("ann", 2)
        self.pool.earn(9)
        for amount in (1, 2, 5):
            self.refuses(InvalidArgument, "deposit", "ben", amount)
        self.assertEqual(self.pool.deposit("ben", 6), 1)

    def test_drawn_calls(self):
        counts = {}
        for seed in range(60):
            source, told, sizes = random.Random(seed), ToldPool(), [3, 20, 10 ** 6, 10 ** 40][seed % 4]
            self.pool = Pool()
            for _ in range(80):
                deed = source.choice(["deposit", "deposit", "redeem", "redeem", "earn"])
                number = source.choice([source.randint(-1, 3), source.randint(1, sizes), source.randint(1, sizes)])
                arguments = (number,) if deed == "earn" else (source.choice(NAMES), number)
                if deed == "redeem" and source.random() < 0.3:
                    arguments = (arguments[0], told.held[arguments[0]])
                kind = self.check_call(told, deed, arguments)
                counts[deed, kind] = counts.get((deed, kind), 0) + 1
        self.assertEqual({key for key in counts if key[1] is not None}, {
            ("deposit", InvalidArgument), ("redeem", InvalidArgument), ("redeem", NotEnoughBalance),
            ("earn", InvalidArgument)})
        self.assertGreater(min(counts.values()), 30)

    def check_call(self, told, deed, arguments):
        """Compares one call; returns the error."""
        worth = Fraction(self.pool.assets(), self.pool.shares()) if self.pool.shares() else 0
        if deed == "deposit":
            self.check_taken_back(told, *arguments)
        wanted = getattr(told, deed)(*arguments)
        if isinstance(wanted, type):
            self.refuses(wanted, deed, *arguments)
        else:
            self.assertEqual(getattr(self.pool, deed)(*arguments), wanted)
        self.has(told.assets, told.shares(), **told.held)
        if self.pool.shares():
            self.assertGreaterEqual(Fraction(self.pool.assets(), self.pool.shares()), worth)
        else:
            self.assertEqual(self.pool.assets(), 0)
        return wanted if isinstance(wanted, type) else None

    def check_taken_back(self, told, account, amount):
        """On a second pool like this one: a deposit that is taken back at once gives no more than it was."""
        other = Pool()
        other.__dict__.update({name: dict(part) if isinstance(part, dict) else part
                               for name, part in vars(self.pool).items()})
        try:
            count = other.deposit(account, amount)
        except InvalidArgument:
            return
        self.assertLessEqual(other.redeem(account, count), amount)
        self.assertEqual(other.shares(), self.pool.shares())


if __name__ == "__main__":
    unittest.main()
