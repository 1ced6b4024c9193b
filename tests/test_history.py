"""Points 17 and 46: histories and supplies."""

import unittest

from tests.bench import ACCOUNTS, inside, ledger, made_config
from tests.test_drawn import grown
from vaultbridge.errors import UnknownBlock, UnknownToken
from vaultbridge.history import history, supplies

TOKENS = ["gold", "salt"]


def pay(amount, sender="ann", receiver="ben", token="gold"):
    return ("pay", sender, receiver, token, amount)


class DrawnHistoryTest(unittest.TestCase):

    def told(self, chain, number, account):
        """A second telling: every block and every token, those without a change left out at the end."""
        line = chain.line(number)
        rows = []
        for height in range(1, len(line)):
            for token in TOKENS:
                old, new = [chain.state(line[at]).balance(account, token) for at in (height - 1, height)]
                rows.append((height, token, new - old))
        return [row for row in rows if row[2] != 0]

    def test_drawn_ledgers(self):
        many = 0
        for seed in range(900, 920):
            bridge = grown(seed, 30)
            for chain in bridge.chains.values():
                before = inside(chain)
                for number in (chain.best(), bridge.draw(*chain.numbers()), 0):
                    for account in ACCOUNTS:
                        found = history(chain, number, account)
                        self.assertEqual(found, self.told(chain, number, account))
                        self.check_sums(chain, number, account, found)
                        many += len(found)
                    for token in TOKENS:
                        self.assertEqual(supplies(chain, number, token),
                                         [chain.state(block).circulating(token) for block in chain.line(number)])
                self.assertEqual(inside(chain), before)
        self.assertGreater(many, 150)

    def check_sums(self, chain, number, account, found):
        for token in TOKENS:
            change = sum(row[2] for row in found if row[1] == token)
            self.assertEqual(change, chain.state(number).balance(account, token)
                             - chain.state(0).balance(account, token))


class HistoryTest(unittest.TestCase):

    def setUp(self):
        self.chain = ledger(config=made_config(
            depth=9, tokens=[("salt", "west", 2, 20, 8), ("gold", "west", 3, 20, 8)],
            balances=[("ann", "gold", 60), ("ann", "salt", 50)]))

    def test_changes_in_order(self):
        self.chain.add(1, 0, (pay(5, token="salt"), pay(3), pay(4)))
        self.chain.add(2, 1, ())
        self.chain.add(3, 2, (pay(2, "ben", "ann"), pay(99), pay(1, "ann", "cat")))
        self.assertEqual(history(self.chain, 3, "ann"), [(1, "gold", -7), (1, "salt", -5), (3, "gold", 1)])
        self.assertEqual(history(self.chain, 3, "ben"), [(1, "gold", 7), (1, "salt", 5), (3, "gold", -2)])
        self.assertEqual(history(self.chain, 2, "cat"), [])
        self.assertEqual(history(self.chain, 3, "cat"), [(3, "gold", 1)])
        self.assertEqual(history(self.chain, 3, "nobody"), [])

    def test_changes_that_cancel_out_within_a_block(self):
        self.chain.add(1, 0, (pay(5), pay(5, "ben", "ann"), pay(2, "ann", "ann")))
        self.assertEqual((history(self.chain, 1, "ann"), history(self.chain, 1, "ben")), ([], []))
        self.chain.add(2, 1, (pay(5),))
        self.chain.add(3, 2, (pay(5, "ben", "ann"),))
        self.assertEqual(history(self.chain, 3, "ann"), [(2, "gold", -5), (3, "gold", 5)])

    def test_the_first_block(self):
        self.assertEqual(history(self.chain, 0, "ann"), [])
        self.assertEqual(supplies(self.chain, 0, "gold"), [60])

    def test_other_branches_do_not_count(self):
        self.chain.add(1, 0, (pay(5),))
        self.chain.add(2, 1, (pay(7),))
        self.chain.add(9, 1, (pay(1),))
        self.chain.add(4, 9, (pay(2),))
        self.assertEqual(history(self.chain, 2, "ann"), [(1, "gold", -5), (2, "gold", -7)])
        self.assertEqual(history(self.chain, 4, "ann"), [(1, "gold", -5), (2, "gold", -1), (3, "gold", -2)])

    def test_bonds_are_no_balances_but_circulate(self):
        self.chain.add(1, 0, (("bond", "ann", "gold", 8),))
        self.chain.add(2, 1, (("send", "ann", "ben", "gold", 6, 0, 9),))
        self.assertEqual(history(self.chain, 2, "ann"), [(1, "gold", -8), (2, "gold", -6)])
        self.assertEqual(supplies(self.chain, 2, "gold"), [60, 60, 54])
        self.assertEqual(supplies(self.chain, 1, "salt"), [50, 50])

    def test_unknown_blocks_and_tokens(self):
        self.chain.add(1, 0, ())
        for number in (2, -1):
            with self.assertRaises(UnknownBlock):
                history(self.chain, number, "ann")
            for token in ("gold", "iron"):
                with self.assertRaises(UnknownBlock) as held:
                    supplies(self.chain, number, token)
                self.assertIs(type(held.exception), UnknownBlock)
        for number in (0, 1):
            with self.assertRaises(UnknownToken) as held:
                supplies(self.chain, number, "iron")
            self.assertIs(type(held.exception), UnknownToken)

    def test_lists_belong_to_the_caller(self):
        self.chain.add(1, 0, (pay(5),))
        history(self.chain, 1, "ann").clear()
        supplies(self.chain, 1, "gold").clear()
        self.assertEqual(history(self.chain, 1, "ann"), [(1, "gold", -5)])
        self.assertEqual(supplies(self.chain, 1, "gold"), [60, 60])


if __name__ == "__main__":
    unittest.main()
