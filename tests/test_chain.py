"""Points 11 to 15: blocks, the final block and the tips; point 18: receipts, events and states of blocks."""

import random
import unittest

from tests.bench import inside, ledger, made_config, shown
from vaultbridge.errors import (
    BridgeError, ConflictsWithFinal, DuplicateBlock, UnknownBlock, UnknownParent, UnknownSeal)
from vaultbridge.notary import Notary


class Tree:
    """A tree of blocks that is kept as plainly as the points say, with nothing but parents."""

    def __init__(self, depth):
        self.depth = depth
        self.parents = {0: None}

    def line(self, number):
        return [] if number is None else self.line(self.parents[number]) + [number]

    def height(self, number):
        return len(self.line(number)) - 1

    def above(self, number):
        return [other for other in self.parents if other != number and number in self.line(other)]

    def final(self):
        deep = [number for number in self.parents
                if any(self.height(other) - self.height(number) >= self.depth for other in self.above(number))]
        return max(deep, key=self.height) if deep else 0

    def live(self):
        return [self.final()] + self.above(self.final())

    def tips(self):
        return sorted(number for number in self.live() if number not in self.parents.values())

    def best(self):
        return min(self.tips(), key=lambda number: (-self.height(number), number))

    def error(self, number, parent):
        """The error that a block has to raise, or None."""
        if number in self.parents:
            return DuplicateBlock
        if parent not in self.parents:
            return UnknownParent
        return None if parent in self.live() else ConflictsWithFinal


def drawn_order(source):
    names = ["ann", "ben", "cat"]
    return ("pay", source.choice(names), source.choice(names), source.choice(["gold", "iron"]), source.randint(0, 40))


class BlocksTest(unittest.TestCase):

    def check_numbers(self, chain, tree):
        self.assertEqual(chain.numbers(), sorted(tree.parents))
        self.assertEqual(chain.final(), tree.final())
        self.assertEqual(chain.tips(), tree.tips())
        self.assertEqual(chain.best(), tree.best())
        final_line = tree.line(tree.final())
        for tip in chain.tips():
            self.assertEqual(chain.line(tip)[:len(final_line)], final_line)
        for number in tree.parents:
            self.assertEqual(chain.parent(number), tree.parents[number])
            self.assertEqual(chain.height(number), tree.height(number))
            self.assertEqual(chain.line(number), tree.line(number))

    def grow(self, source, depth, numbers):
        """Draws blocks; counts the errors by their words."""
        chain, tree, orders, counts = ledger(config=made_config(depth=depth)), Tree(depth), {0: ()}, {}
        for _ in range(40):
            number = source.choice(numbers)
            high = max(chain.numbers(), key=chain.height)
            parent = source.choice([high, high, chain.best(), source.choice(chain.numbers()), source.choice(numbers)])
            made = tuple(drawn_order(source) for _ in range(source.randint(0, 2)))
            before, final_line = inside(chain), chain.line(chain.final())
            error = tree.error(number, parent)
            if error is None:
                self.assertIsNone(chain.add(number, parent, made))
                tree.parents[number], orders[number] = parent, made
            else:
                with self.assertRaises(error) as held:
                    chain.add(number, parent, made)
                self.assertIs(type(held.exception), error)
                self.assertEqual(inside(chain), before)
            counts[error] = counts.get(error, 0) + 1
            self.assertEqual(chain.line(chain.final())[:len(final_line)], final_line)
            self.check_numbers(chain, tree)
            self.assertEqual({number: chain.orders(number) for number in chain.numbers()}, orders)
        return counts

    def test_drawn_blocks(self):
        for depth in (1, 2, 3):
            source = random.Random(depth)
            counts = {}
            for _ in range(6):
                numbers = source.sample(range(-20, 200), 60) + [0]
                for error, many in self.grow(source, depth, numbers).items():
                    counts[error] = counts.get(error, 0) + many
            for error in (None, DuplicateBlock, UnknownParent, ConflictsWithFinal):
                self.assertGreater(counts.get(error, 0), 10, (depth, error))

    def test_the_first_block(self):
        chain = ledger()
        self.assertEqual((chain.numbers(), chain.tips(), chain.line(0)), ([0], [0], [0]))
        self.assertEqual((chain.final(), chain.best(), chain.height(0)), (0, 0, 0))
        self.assertIsNone(chain.parent(0))
        self.assertEqual((chain.orders(0), chain.receipts(0), chain.events(0)), ((), [], []))

    def test_depth_at_and_just_below(self):
        for depth in (1, 2, 3):
            chain = ledger(config=made_config(depth=depth))
            for number in range(1, depth + 1):
                chain.add(number, number - 1, ())
                self.assertEqual(chain.final(), 0)
            chain.add(50, 0, ())
            chain.add(depth + 1, depth, ())
            self.assertEqual(chain.final(), 1)
            for parent in (0, 50):
                with self.assertRaises(ConflictsWithFinal):
                    chain.add(60, parent, ())
            chain.add(60, 1, ())

    def test_a_final_block_without_blocks_above_the_branch(self):
        chain = ledger(config=made_config(depth=1))
        chain.add(1, 0, ())
        chain.add(9, 1, ())
        chain.add(5, 1, ())
        self.assertEqual((chain.final(), chain.tips(), chain.best()), (1, [5, 9], 5))
        chain.add(2, 9, ())
        self.assertEqual((chain.final(), chain.tips(), chain.best()), (9, [2], 2))
        with self.assertRaises(ConflictsWithFinal):
            chain.add(6, 5, ())

    def test_the_best_tip(self):
        chain = ledger(config=made_config(depth=3))
        chain.add(8, 0, ())
        chain.add(3, 0, ())
        self.assertEqual(chain.best(), 3)
        chain.add(9, 8, ())
        self.assertEqual((chain.tips(), chain.best()), ([3, 9], 9))
        chain.add(-4, 8, ())
        self.assertEqual((chain.tips(), chain.best()), ([-4, 3, 9], -4))

    def test_the_order_of_the_errors(self):
        chain = ledger(config=made_config(depth=1))
        for number, parent in ((1, 0), (2, 0), (3, 1), (4, 3)):
            chain.add(number, parent, ())
        bad = (("accuse", "ann", 0, 0),)
        for parent in (77, 2, 4):
            with self.assertRaises(DuplicateBlock):
                chain.add(2, parent, bad)
            with self.assertRaises(DuplicateBlock):
                chain.add(0, parent, bad)
        with self.assertRaises(UnknownParent):
            chain.add(5, 77, bad)
        with self.assertRaises(UnknownParent):
            chain.add(5, 5, bad)
        with self.assertRaises(ConflictsWithFinal):
            chain.add(5, 2, bad)
        with self.assertRaises(UnknownSeal):
            chain.add(5, 4, bad)
        self.assertEqual(chain.numbers(), [0, 1, 2, 3, 4])

    def test_unknown_blocks(self):
        chain = ledger()
        chain.add(1, 0, ())
        for ask in (chain.parent, chain.height, chain.orders, chain.line, chain.state, chain.receipts, chain.events):
            for number in (-1, 2, 99):
                with self.assertRaises(UnknownBlock):
                    ask(number)


class SealsTest(unittest.TestCase):

    def setUp(self):
        self.notary = Notary()
        self.chain = ledger(notary=self.notary)
        self.letter = ("stop", "west", 0, ())

    def refuse(self, *orders):
        before = inside(self.chain)
        with self.assertRaises(UnknownSeal):
            self.chain.add(1, 0, orders)
        self.assertEqual(inside(self.chain), before)

    def test_seals_beyond_the_table(self):
        for number in (0, 1, -1):
            self.refuse(("take", "rel", self.letter, (number,)))
        known = self.notary.seal("g1", self.letter)
        for number in (1, 2, -1, 10 ** 9):
            self.refuse(("take", "rel", self.letter, (number,)))
            self.refuse(("take", "rel", self.letter, (known, number)))
            self.refuse(("take", "rel", "no letter", (known, number, known)))
            self.refuse(("accuse", "rel", known, number))
            self.refuse(("accuse", "rel", number, known))
            self.refuse(("pay", "ann", "ben", "gold", 1), ("accuse", "rel", known, number))

    def test_seals_in_the_table(self):
        known = self.notary.seal("g1", self.letter)
        last = self.notary.seal("g2", self.letter)
        self.chain.add(1, 0, (("take", "rel", self.letter, ()), ("take", "rel", self.letter, (known, last, known)),
                              ("accuse", "rel", known, last)))
        self.assertEqual(self.chain.receipts(1), ["NotEnoughWeight", "done", "InvalidOrder"])

    def test_other_orders_have_no_seals(self):
        self.chain.add(1, 0, (("take", "rel", self.letter, (7,), 7), ("take", "rel", self.letter), ("accuse", "a", 7),
                              ("accuse", "a", 7, 7, 7), ("bond", "a", 7, 7), ("unbond", "a", "gold", 9), (),
                              ("claim", "rel", 9)))
        self.assertEqual(self.chain.receipts(1), ["InvalidOrder"] * 4 + ["UnknownToken", "NotEnoughBalance",
                                                                         "InvalidOrder", "UnknownTransfer"])


class StatesTest(unittest.TestCase):

    def setUp(self):
        self.config = made_config()
        self.chain = ledger(config=self.config)

    def test_orders_one_after_the_other(self):
        self.chain.add(1, 0, (
            ("pay", "cat", "ben", "gold", 1), ("pay", "ann", "cat", "gold", 5), ("pay", "cat", "ben", "gold", 2),
            ("send", "cat", "out", "gold", 3, 0, 9), ("what",), ("pay", "ann", "cat", "iron", 5),
            ("send", "ann", "out", "gold", 7, 1, 9)))
        self.assertEqual(self.chain.receipts(1), ["NotEnoughBalance", "done", "done", "done", "InvalidOrder",
                                                  "UnknownToken", "done"])
        first, second = ("gold", 1, 0, "cat", "out", 9), ("gold", 2, 1, "ann", "out", 9)
        self.assertEqual(self.chain.events(1), [("sent", 0, first), ("sent", 1, second)])
        state = self.chain.state(1)
        self.assertEqual([state.balance(name, "gold") for name in ("ann", "ben", "cat")], [49, 12, 0])
        self.assertEqual((state.vault("gold"), state.transfers()), (9, [first, second]))
        self.assertEqual((state.height(), state.side()), (1, "west"))

    def test_the_state_is_that_after_the_parent(self):
        self.chain.add(1, 0, (("pay", "ann", "cat", "gold", 10),))
        self.chain.add(2, 0, (("pay", "ann", "cat", "gold", 1),))
        self.chain.add(3, 1, (("pay", "cat", "ben", "gold", 10),))
        self.chain.add(4, 2, (("pay", "cat", "ben", "gold", 10),))
        self.assertEqual((self.chain.receipts(3), self.chain.receipts(4)), (["done"], ["NotEnoughBalance"]))
        self.assertEqual([self.chain.state(n).balance("ben", "gold") for n in range(5)], [10, 10, 10, 20, 10])
        self.assertEqual([self.chain.state(n).height() for n in range(5)], [0, 1, 1, 2, 2])
        self.assertEqual([self.chain.events(n) for n in range(5)], [[]] * 5)

    def test_heights_reach_the_orders(self):
        notary = Notary()
        chain = ledger("east", self.config, notary)
        letter = ("deliver", "west", 0, ("gold", 1, 0, "ann", "ben", 2))
        order = ("take", "rel", letter, tuple(notary.seal(name, letter) for name in ("g1", "g2", "g3")))
        chain.add(1, 0, ())
        chain.add(2, 1, (order,))
        chain.add(3, 1, ())
        chain.add(4, 3, (order,))
        chain.add(5, 2, (order,))
        self.assertEqual(chain.events(2), [("delivered", 0, letter[3])])
        self.assertEqual(chain.events(4), [("refused", 0, letter[3])])
        self.assertEqual(chain.receipts(5), ["AlreadyTaken"])
        self.assertEqual([chain.state(number).taken(0) for number in range(1, 6)],
                         [None, "delivered", None, "refused", "delivered"])

    def test_lists_and_states_belong_to_the_caller(self):
        transfer = ("gold", 2, 1, "ann", "out", 9)
        self.chain.add(1, 0, (("send", "ann", "out", "gold", 6, 1, 9), ("bond", "ann", "gold", 1)))
        self.chain.add(2, 1, ())
        before = inside(self.chain)
        for ask in (self.chain.line, self.chain.receipts, self.chain.events):
            ask(1).append("more")
            ask(1).clear()
        for ask in (self.chain.numbers, self.chain.tips):
            ask().append(77)
            ask().clear()
        state = self.chain.state(1)
        for found in (state.transfers(), state.waiting(), state.bonded_guards("gold")):
            found.append("more")
        self.assertEqual((state.transfers(), state.waiting(), state.bonded_guards("gold")), ([transfer], [], ["ann"]))
        self.assertEqual(inside(self.chain), before)

    def test_no_method_of_a_state_reaches_the_ledger(self):
        self.chain.add(1, 0, (("send", "ann", "out", "gold", 6, 1, 9),))
        before = inside(self.chain)
        arguments = ("ann", "gold", 1, 2)
        state = self.chain.state(1)
        for name in dir(state):
            if not name.startswith("_"):
                for many in range(5):
                    for given in (arguments[:many], (0, "gold", 5)[:many], (0, 1, 2)[:many]):
                        self.call_freely(getattr(state, name), given)
        self.assertEqual(inside(self.chain), before)
        self.assertEqual(shown(self.config, self.chain.state(1))["transfers"], [("gold", 2, 1, "ann", "out", 9)])

    def call_freely(self, method, given):
        try:
            method(*given)
        except (TypeError, KeyError, AttributeError, BridgeError):
            pass


if __name__ == "__main__":
    unittest.main()
