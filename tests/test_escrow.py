"""Point 62: locks and escrows."""

import random
import unittest

from tests.bench import inside
from vaultbridge.errors import AlreadyTaken, InvalidArgument, NotEnoughWeight, TooEarly, UnknownTransfer
from vaultbridge.escrow import Escrow, Locks

SECRETS = ["", "a", "b", "A", "a b", "0", "secret"]
NAMES = ["ann", "ben", "cat"]


class LocksTest(unittest.TestCase):

    def test_numbers_in_the_order_in_which_secrets_come_first(self):
        locks = Locks()
        for number, secret in enumerate(SECRETS):
            self.assertEqual(locks.lock(secret), number)
            self.assertEqual(locks.lock(SECRETS[0]), 0)
        self.assertEqual([locks.lock(secret) for secret in SECRETS[::-1]], list(range(len(SECRETS)))[::-1])

    def test_a_secret_opens_its_own_lock_alone(self):
        locks = Locks()
        for secret in SECRETS[:4]:
            locks.lock(secret)
        before = inside(locks)
        for number in range(-2, 9):
            for at, secret in enumerate(SECRETS):
                self.assertIs(locks.opens(number, secret), at == number and at < 4)
        self.assertEqual(inside(locks), before)

    def test_a_secret_without_a_lock_opens_none(self):
        locks = Locks()
        for number in (-1, 0, 1):
            self.assertFalse(locks.opens(number, "a"))
        # asking gave it no lock
        self.assertEqual((locks.lock("b"), locks.lock("a")), (0, 1))

    def test_tables_are_apart(self):
        one, other = Locks(), Locks()
        one.lock("a")
        self.assertEqual((other.lock("b"), other.opens(0, "a"), one.opens(0, "a")), (0, False, True))


class ToldEscrow:
    """A second telling of an escrow: a list of rows, each with what became of it; locks are told by their secrets."""

    def __init__(self, secrets):
        self.secrets, self.rows = secrets, []

    def keep(self, owner, receiver, amount, lock, height):
        if amount < 1:
            return InvalidArgument
        self.rows.append([owner, receiver, amount, lock, height, "kept"])
        return len(self.rows) - 1

    def show(self, number, secret, height):
        if number not in range(len(self.rows)):
            return UnknownTransfer
        row = self.rows[number]
        if row[5] != "kept":
            return AlreadyTaken
        if row[4] < height:
            return TooEarly
        if row[3] not in range(len(self.secrets)) or self.secrets[row[3]] != secret:
            return NotEnoughWeight
        row[5] = "shown"
        return (row[1], row[2])

    def give_back(self, number, height):
        if number not in range(len(self.rows)):
            return UnknownTransfer
        row = self.rows[number]
        if row[5] != "kept":
            return AlreadyTaken
        if row[4] >= height:
            return TooEarly
        row[5] = "given back"
        return (row[0], row[2])

    def kept(self):
        return sum(row[2] for row in self.rows if row[5] == "kept")


class EscrowTest(unittest.TestCase):

    def begin(self, *secrets):
        self.locks = Locks()
        for secret in secrets:
            self.locks.lock(secret)
        self.escrow = Escrow(self.locks)

    def refuses(self, error, deed, *arguments):
        before = inside(self.escrow)
        with self.assertRaises(error) as held:
            getattr(self.escrow, deed)(*arguments)
        self.assertIs(type(held.exception), error)
        self.assertEqual(inside(self.escrow), before)

    def test_by_hand(self):
        self.begin("a", "b")
        self.assertEqual(self.escrow.kept(), 0)
        self.assertEqual(self.escrow.keep("ann", "ben", 10, 0, 5), 0)
        self.assertEqual(self.escrow.keep("ann", "cat", 7, 1, 5), 1)
        self.assertEqual(self.escrow.keep("cat", "cat", 1, 0, 0), 2)
        self.assertEqual(self.escrow.kept(), 18)
        self.refuses(NotEnoughWeight, "show", 0, "b", 5)
        self.refuses(NotEnoughWeight, "show", 0, "c", 5)
        self.refuses(TooEarly, "show", 0, "a", 6)
        self.refuses(TooEarly, "show", 0, "b", 6)
        self.refuses(TooEarly, "give_back", 0, 5)
        self.assertEqual(self.escrow.show(0, "a", 5), ("ben", 10))
        self.assertEqual(self.escrow.kept(), 8)
        for height in (0, 5, 6):
            self.refuses(AlreadyTaken, "show", 0, "a", height)
            self.refuses(AlreadyTaken, "show", 0, "b", height)
            self.refuses(AlreadyTaken, "give_back", 0, height)
        self.assertEqual(self.escrow.give_back(1, 6), ("ann", 7))
        self.refuses(AlreadyTaken, "give_back", 1, 6)
        self.refuses(AlreadyTaken, "show", 1, "b", 5)
        self.assertEqual(self.escrow.kept(), 1)
        self.assertEqual(self.escrow.give_back(2, 1), ("cat", 1))
        self.assertEqual(self.escrow.kept(), 0)

    def test_there_is_no_such_amount(self):
        self.begin("a")
        for many in range(3):
            for number in (-1, -many - 1, many, many + 1, 10 ** 30):
                for height in (0, 99):
                    self.refuses(UnknownTransfer, "show", number, "a", height)
                    self.refuses(UnknownTransfer, "give_back", number, height)
            self.assertEqual(self.escrow.keep("ann", "ben", 1, 0, 5), many)

    def test_wrong_amounts(self):
        self.begin("a")
        for amount in (0, -1, -10 ** 30):
            self.refuses(InvalidArgument, "keep", "ann", "ben", amount, 0, 5)
        self.assertEqual(self.escrow.keep("ann", "ben", 1, 0, 5), 0)

    def test_a_lock_that_is_made_later(self):
        self.begin("a")
        self.escrow.keep("ann", "ben", 3, 1, 5)
        self.refuses(NotEnoughWeight, "show", 0, "b", 1)
        self.refuses(NotEnoughWeight, "show", 0, "a", 1)
        self.locks.lock("b")
        self.assertEqual(self.escrow.show(0, "b", 1), ("ben", 3))

    def test_drawn_calls(self):
        counts = {}
        for seed in range(80):
            source = random.Random(seed)
            secrets = source.sample(SECRETS, source.randint(1, 4))
            self.begin(*secrets)
            told = ToldEscrow(secrets)
            for _ in range(70):
                deed = source.choice(["keep", "show", "show", "give_back"])
                arguments = getattr(self, "draw_" + deed)(source, told)
                kind = self.check_call(told, deed, arguments)
                counts[deed, kind] = counts.get((deed, kind), 0) + 1
        self.assertEqual(set(counts), {("keep", None), ("keep", InvalidArgument)} | {
            (deed, kind) for deed in ("show", "give_back") for kind in (None, UnknownTransfer, AlreadyTaken, TooEarly)
        } | {("show", NotEnoughWeight)})
        self.assertGreater(min(counts.values()), 50)

    def draw_keep(self, source, told):
        amount = source.choice([source.randint(-1, 3), source.randint(1, 50), 10 ** 30])
        return (source.choice(NAMES), source.choice(NAMES), amount, source.randint(-1, len(told.secrets)),
                source.randint(0, 9))

    def draw_show(self, source, told):
        number = source.randint(-2, len(told.rows) + 1)
        secret = source.choice(SECRETS)
        if number in range(len(told.rows)) and 0 <= told.rows[number][3] < len(told.secrets):
            secret = source.choice([secret, told.secrets[told.rows[number][3]]])
        return (number, secret, source.randint(0, 10))

    def draw_give_back(self, source, told):
        return (source.randint(-2, len(told.rows) + 1), source.randint(0, 10))

    def check_call(self, told, deed, arguments):
        """Compares one call; returns the error."""
        wanted = getattr(told, deed)(*arguments)
        if isinstance(wanted, type):
            self.refuses(wanted, deed, *arguments)
        else:
            found = getattr(self.escrow, deed)(*arguments)
            self.assertEqual(found, wanted)
            self.assertIs(type(found), type(wanted))
        self.assertEqual(self.escrow.kept(), told.kept())
        return wanted if isinstance(wanted, type) else None


if __name__ == "__main__":
    unittest.main()
