"""Point 45: nodes with a log, crashes and copying."""

import unittest

from tests.bench import inside, made_config, shown
from tests.test_drawn import grown
from vaultbridge.chain import Chain
from vaultbridge.errors import (
    BridgeError, ConflictsWithFinal, DuplicateBlock, UnknownBlock, UnknownParent, UnknownSeal)
from vaultbridge.node import Node
from vaultbridge.notary import Notary

PAY = ("pay", "ann", "ben", "gold", 1)
STOP = ("stop", "west", 0, ())


def told(config, chain):
    """All that a ledger tells."""
    blocks = [(chain.parent(number), chain.height(number), chain.orders(number), chain.line(number),
               chain.receipts(number), chain.events(number), shown(config, chain.state(number)))
              for number in chain.numbers()]
    return chain.numbers(), chain.final(), chain.tips(), chain.best(), blocks


class NodeCase(unittest.TestCase):

    def same_as_log(self, config, notary, side, node, log):
        """Compares the ledger and the log of a node with a ledger that takes in the blocks of a list."""
        self.assertEqual(node.log(), log)
        chain = Chain(side, config, notary)
        for block in log:
            chain.add(*block)
        self.assertEqual(told(config, node.chain()), told(config, chain))
        self.assertEqual(inside(node.chain()), inside(chain))


class ByHandTest(NodeCase):

    def setUp(self):
        self.config, self.notary = made_config(depth=1), Notary()
        self.node = self.made("west")

    def made(self, side):
        return Node(side, self.config, self.notary)

    def check(self, log, node=None):
        self.same_as_log(self.config, self.notary, "west", node or self.node, log)

    def test_a_new_node(self):
        self.assertEqual((self.node.log(), self.node.chain().numbers()), ([], [0]))
        self.assertEqual(self.made("east").chain().state(0).side(), "east")
        self.assertIs(self.node.chain(), self.node.chain())

    def test_blocks_are_taken_in(self):
        self.assertIsNone(self.node.take_in(5, 0, (PAY,)))
        self.node.take_in(3, 0, ())
        self.node.take_in(4, 5, (PAY, PAY))
        self.check([(5, 0, (PAY,)), (3, 0, ()), (4, 5, (PAY, PAY))])
        self.assertEqual(self.node.chain().receipts(4), ["done", "done"])

    def test_refused_blocks_change_nothing(self):
        for block in ((1, 0, (PAY,)), (2, 1, ())):
            self.node.take_in(*block)
        unknown = ("take", "rel", STOP, (0,))
        for error, block in ((DuplicateBlock, (2, 9, ())), (DuplicateBlock, (0, 2, ())), (UnknownParent, (3, 9, ())),
                             (ConflictsWithFinal, (3, 0, ())), (UnknownSeal, (3, 2, (PAY, unknown)))):
            before = inside(self.node)
            with self.assertRaises(error) as held:
                self.node.take_in(*block)
            self.assertIs(type(held.exception), error)
            self.assertEqual(inside(self.node), before)
        self.check([(1, 0, (PAY,)), (2, 1, ())])

    def test_a_crash_makes_the_ledger_anew(self):
        log = [(1, 0, (PAY,)), (2, 1, (PAY,)), (7, 1, ()), (3, 2, (PAY,))]
        for block in log[:2]:
            self.node.take_in(*block)
        self.assertIsNone(self.node.flush())
        for block in log[2:]:
            self.node.take_in(*block)
        self.assertIsNone(self.node.crash(0))
        self.check(log)
        self.node.crash(1)
        self.check(log[:3])
        self.assertEqual((self.node.chain().final(), self.node.chain().tips()), (1, [2, 7]))
        with self.assertRaises(UnknownBlock):
            self.node.chain().state(3)
        self.node.take_in(3, 7, ())
        self.assertEqual(self.node.chain().final(), 7)
        self.node.crash(99)
        self.check(log[:2])
        self.node.take_in(3, 2, ())
        self.check(log[:2] + [(3, 2, ())])

    def test_a_crash_without_a_flush(self):
        self.node.take_in(1, 0, (PAY,))
        self.node.take_in(2, 1, (PAY,))
        self.node.crash(1)
        self.check([(1, 0, (PAY,))])
        self.node.crash(5)
        self.check([])

    def test_what_a_ledger_refused_may_be_taken_after_a_crash(self):
        self.node.take_in(1, 0, ())
        self.node.take_in(2, 1, ())
        with self.assertRaises(ConflictsWithFinal):
            self.node.take_in(3, 0, ())
        self.node.crash(1)
        self.node.take_in(3, 0, ())
        self.check([(1, 0, ()), (3, 0, ())])

    def test_seals_in_the_orders(self):
        seals = tuple(self.notary.seal(name, STOP) for name in ("g1", "g2"))
        self.node.take_in(1, 0, (("take", "rel", STOP, seals),))
        self.node.crash(0)
        self.assertEqual(self.node.chain().receipts(1), ["done"])
        self.assertTrue(self.node.chain().state(1).is_stopped())

    def test_copying(self):
        other = self.made("west")
        for block in ((1, 0, (PAY,)), (2, 0, ()), (3, 1, (PAY,))):
            other.take_in(*block)
        self.node.take_in(2, 0, ())
        before = inside(other)
        self.assertEqual(self.node.copy_from(other), 2)
        self.check([(2, 0, ()), (1, 0, (PAY,)), (3, 1, (PAY,))])
        self.assertEqual(inside(other), before)
        self.assertEqual(self.node.copy_from(other), 0)
        self.assertEqual(self.node.copy_from(self.node), 0)
        self.node.crash(1)
        self.assertEqual(self.node.copy_from(other), 1)
        self.assertEqual(self.made("west").copy_from(self.made("west")), 0)

    def test_blocks_that_the_ledger_refuses_are_left_out(self):
        other = self.made("west")
        for block in ((1, 0, ()), (2, 0, (PAY,)), (4, 2, ()), (3, 4, ())):
            other.take_in(*block)
        for block in ((5, 0, ()), (6, 5, ()), (3, 6, (PAY, PAY))):
            self.node.take_in(*block)
        # the final blocks differ: nothing of the other line is taken in, nor another block with the number 3
        self.assertEqual(self.node.copy_from(other), 0)
        self.check([(5, 0, ()), (6, 5, ()), (3, 6, (PAY, PAY))])
        # a block on this node's own block 3 is taken in, although the other one meant another block
        other = self.made("west")
        for block in ((3, 0, ()), (8, 3, (PAY,)), (9, 8, ())):
            other.take_in(*block)
        self.assertEqual(self.node.copy_from(other), 2)
        self.check([(5, 0, ()), (6, 5, ()), (3, 6, (PAY, PAY)), (8, 3, (PAY,)), (9, 8, ())])

    def test_lists_belong_to_the_caller(self):
        self.node.take_in(1, 0, ())
        self.node.log().clear()
        self.node.log().append("spoilt")
        self.node.crash(0)
        self.check([(1, 0, ())])


class DrawnNodeTest(NodeCase):

    def orders(self, bridge, side):
        state = bridge.chains[side].state(bridge.chains[side].best())
        return tuple(bridge.order(side, state) for _ in range(bridge.source.randint(0, 3)))

    def take_in(self, node, log, block):
        """Lets a node take in a block, if its ledger does."""
        before = node.log()
        try:
            node.take_in(*block)
            log.append(block)
        except BridgeError:
            self.assertEqual(node.log(), before)

    def copy(self, bridge, side, nodes, logs):
        here, there = bridge.source.sample([0, 1], 2)
        chain = Chain(side, bridge.config, bridge.notary)
        for block in logs[here]:
            chain.add(*block)
        taken = []
        for block in logs[there]:
            try:
                chain.add(*block)
                taken.append(block)
            except BridgeError:
                pass
        self.assertEqual(nodes[here].copy_from(nodes[there]), len(taken))
        logs[here].extend(taken)

    def test_drawn_deeds(self):
        counts = {}
        for seed in range(800, 820):
            bridge = grown(seed, 10)
            side = bridge.draw("west", "east")
            nodes = [Node(side, bridge.config, bridge.notary) for _ in range(2)]
            logs, flushed = [[], []], [0, 0]
            for _ in range(45):
                at = bridge.draw(0, 1)
                chain = nodes[at].chain()
                deed = bridge.draw(*["take_in"] * 8, "flush", "crash", "copy")
                before = len(logs[0]) + len(logs[1])
                if deed == "take_in":
                    parent = bridge.draw(chain.best(), chain.best(), *chain.tips(), bridge.source.randint(0, 40))
                    block = (bridge.source.randint(0, 60), parent, self.orders(bridge, side))
                    self.take_in(nodes[at], logs[at], block)
                elif deed == "flush":
                    nodes[at].flush()
                    flushed[at] = len(logs[at])
                elif deed == "crash":
                    lost = bridge.draw(0, 1, 2, 4, 99)
                    nodes[at].crash(lost)
                    while lost > 0 and len(logs[at]) > flushed[at]:
                        logs[at].pop()
                        lost -= 1
                else:
                    self.copy(bridge, side, nodes, logs)
                found = (deed, before != len(logs[0]) + len(logs[1]))
                counts[found] = counts.get(found, 0) + 1
                self.assertEqual([node.log() for node in nodes], logs)
            for node, log in zip(nodes, logs):
                self.same_as_log(bridge.config, bridge.notary, side, node, log)
        for deed in ("take_in", "crash", "copy"):
            for changed in (True, False):
                self.assertGreater(counts.get((deed, changed), 0), 5, (deed, changed))


if __name__ == "__main__":
    unittest.main()
