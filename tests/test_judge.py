"""Points 18 and 60: a judge."""

import random
import unittest
from itertools import zip_longest

from tests.bench import inside, ledger, made_config
from tests.model import Model
from tests.test_drawn import SIDES, grown
from vaultbridge.judge import judge
from vaultbridge.notary import Notary

WORDS = ["done", "NotEnoughBalance", "InvalidOrder", "Stopped", "UnknownToken", "", "Done", "what"]


def true_claims(chain, number):
    """The line of a block as its ledger tells it."""
    return [(chain.orders(block), tuple(chain.receipts(block))) for block in chain.line(number)[1:]]


def difference(true, told):
    """The place of the first claim that is not the true one."""
    for block, (one, other) in enumerate(zip(true, told)):
        for index, (right, claim) in enumerate(zip_longest(one[1], other[1])):
            if right != claim:
                return (block, index)
    return None


class DrawnJudgeTest(unittest.TestCase):

    def cases(self):
        """Lines of drawn ledgers: to the highest block, and to any one."""
        for seed in range(1600, 1625):
            bridge = grown(seed, 30)
            for side in SIDES:
                chain = bridge.chains[side]
                for number in (max(chain.numbers(), key=chain.height), bridge.draw(*chain.numbers())):
                    yield bridge, side, true_claims(chain, number)

    def test_true_claims(self):
        for bridge, side, claims in self.cases():
            before, table = list(claims), inside(bridge.notary)
            self.assertIsNone(judge(bridge.config, bridge.notary, side, claims))
            self.assertEqual((claims, inside(bridge.notary)), (before, table))

    def test_each_outcome_against_the_second_telling(self):
        """Claims that are all empty are wrong at the first order, whose outcome the model tells."""
        for bridge, side, claims in self.cases():
            model, told = Model(bridge.config, bridge.notary, side), []
            for orders, _ in claims:
                model.height += 1
                told.append((orders, tuple(model.do(order)[0] for order in orders)))
            self.assertEqual(told, claims)
            self.assertIsNone(judge(bridge.config, bridge.notary, side, told))

    def changed(self, source, claims, block):
        """The claims with one of a block changed, left out or added at any place."""
        orders, words = claims[block]
        at, deed = source.randint(0, len(words)), source.choice(["change", "change", "leave out", "add"])
        if deed == "change":
            words = words[:at] + tuple(source.choice(WORDS) for _ in words[at:at + 1]) + words[at + 1:]
        elif deed == "leave out":
            words = words[:at] + words[at + 1:]
        else:
            words = words[:at] + (source.choice(WORDS),) + words[at:]
        return claims[:block] + [(orders, words)] + claims[block + 1:]

    def test_one_change(self):
        source, places = random.Random(61), {}
        for bridge, side, claims in self.cases():
            for _ in range(25):
                if not claims:
                    continue
                told = self.changed(source, claims, source.randrange(len(claims)))
                found = judge(bridge.config, bridge.notary, side, told)
                self.assertEqual(found, difference(claims, told))
                self.assertIn(type(found), (tuple, type(None)))
                places[found] = places.get(found, 0) + 1
        self.assertGreater(places[None], 20)
        self.assertGreater(len(places), 20)

    def test_two_changes(self):
        """The first one counts."""
        source = random.Random(62)
        for bridge, side, claims in self.cases():
            for _ in range(10):
                told = claims
                for _ in range(2):
                    told = self.changed(source, told, source.randrange(len(told))) if told else told
                self.assertEqual(judge(bridge.config, bridge.notary, side, told), difference(claims, told))


class JudgeTest(unittest.TestCase):

    def setUp(self):
        self.config, self.notary = made_config(), Notary()

    def judge(self, *claims):
        return judge(self.config, self.notary, "west", list(claims))

    def test_by_hand(self):
        pay, too_much = ("pay", "ann", "cat", "gold", 40), ("pay", "ben", "ann", "gold", 99)
        both, right = (pay, too_much), ("done", "NotEnoughBalance")
        again = (both, ("NotEnoughBalance", "NotEnoughBalance"))
        self.assertIsNone(self.judge())
        self.assertIsNone(self.judge(((), ())))
        self.assertIsNone(self.judge((both, right)))
        self.assertIsNone(self.judge((both, right), ((), ()), again))
        self.assertEqual(self.judge((both, right), (both, right)), (1, 0))
        self.assertEqual(self.judge((both, ("done", "done"))), (0, 1))
        self.assertEqual(self.judge((both, ("NotEnoughBalance", "done"))), (0, 0))
        self.assertEqual(self.judge((both, ("done", "UnknownToken")), again), (0, 1))
        self.assertEqual(self.judge((both, ("done",))), (0, 1))
        self.assertEqual(self.judge((both, ())), (0, 0))
        self.assertEqual(self.judge((both, right + ("done",))), (0, 2))
        self.assertEqual(self.judge((both, ("done", "done", "done"))), (0, 1))
        self.assertEqual(self.judge(((), ("done",))), (0, 0))
        self.assertEqual(self.judge((both, right), ((), ()), ((), ("",))), (2, 0))

    def test_heights(self):
        """What an order does may depend on the height of its block."""
        letter = ("deliver", "east", 0, ("salt", 2, 0, "ann", "ben", 2))
        seals = tuple(self.notary.seal(name, letter) for name in ("g1", "g2", "g3"))
        for empty, event in ((0, "delivered"), (1, "delivered"), (2, "refused")):
            orders = (("take", "rel", letter, seals), ("send", "ben", "ann", "salt", 2, 0, 9))
            chain = ledger("west", self.config, self.notary)
            for number in range(empty):
                chain.add(number + 1, number, ())
            chain.add(9, empty, orders)
            self.assertEqual(chain.events(9)[0][0], event)
            told = [((), ())] * empty
            for words in (("done", "done"), ("done", "NotEnoughBalance")):
                wanted = None if words[1] == chain.receipts(9)[1] else (empty, 1)
                self.assertEqual(self.judge(*told, (orders, words)), wanted)


if __name__ == "__main__":
    unittest.main()
