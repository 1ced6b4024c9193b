"""Points 39 and 44: relayers that receive seals, flush and crash."""

import random
import unittest

from tests.bench import inside, made_config
from tests.test_drawn import grown
from vaultbridge.errors import UnknownSeal
from vaultbridge.gateway import next_height
from vaultbridge.notary import Notary
from vaultbridge.relay import ready_orders
from vaultbridge.relayer import Relayer
from vaultbridge.state import opening_state

TRANSFER = ("gold", 2, 1, "ann", "ben", 50)


class RelayerTest(unittest.TestCase):

    def setUp(self):
        self.notary = Notary()
        self.config = made_config()
        for number in range(3):
            for name in ("g1", "g2", "g3"):
                self.notary.seal(name, ("deliver", "west", number, TRANSFER))
        self.relayer = Relayer("rel", self.config, self.notary)

    def receive(self, *seals):
        for seal in seals:
            self.assertIsNone(self.relayer.receive(seal))

    def test_each_once_in_the_order_in_which_they_came_first(self):
        self.assertEqual(self.relayer.seals(), [])
        self.receive(5, 0, 5, 8, 0, 3, 5, 8)
        self.assertEqual(self.relayer.seals(), [5, 0, 8, 3])

    def test_unknown_seals(self):
        self.receive(8)
        before = inside(self.relayer)
        for seal in (9, 10, 99, -1, -9):
            with self.assertRaises(UnknownSeal) as held:
                self.relayer.receive(seal)
            self.assertIs(type(held.exception), UnknownSeal)
            self.assertEqual(inside(self.relayer), before)
        self.notary.seal("g4", ("stop", "west", 0, ()))
        self.receive(9)
        self.assertEqual(self.relayer.seals(), [8, 9])

    def test_crashes(self):
        self.receive(4, 2)
        self.assertIsNone(self.relayer.flush())
        self.receive(7, 1, 6)
        self.assertIsNone(self.relayer.crash(0))
        self.assertEqual(self.relayer.seals(), [4, 2, 7, 1, 6])
        self.relayer.crash(1)
        self.assertEqual(self.relayer.seals(), [4, 2, 7, 1])
        self.relayer.crash(3)
        self.assertEqual(self.relayer.seals(), [4, 2])
        # what was lost can come again, behind the others
        self.receive(3, 7, 2)
        self.assertEqual(self.relayer.seals(), [4, 2, 3, 7])
        self.relayer.crash(99)
        self.assertEqual(self.relayer.seals(), [4, 2])

    def test_without_a_flush_all_may_be_lost(self):
        self.receive(4, 2)
        self.relayer.crash(5)
        self.assertEqual(self.relayer.seals(), [])
        self.relayer.flush()
        self.receive(1)
        self.relayer.crash(1)
        self.assertEqual(self.relayer.seals(), [])

    def test_drawn_deeds(self):
        for seed in range(40):
            source = random.Random(seed)
            self.relayer = Relayer("rel", self.config, self.notary)
            told, flushed = [], 0
            for _ in range(60):
                deed, lost = source.choice(["receive", "receive", "receive", "flush", "crash"]), source.randint(0, 4)
                if deed == "receive":
                    seal = source.randint(0, 8)
                    self.receive(seal)
                    told = told if seal in told else told + [seal]
                elif deed == "flush":
                    self.relayer.flush()
                    flushed = len(told)
                else:
                    self.relayer.crash(lost)
                    for _ in range(lost):
                        told = told[:-1] if len(told) > flushed else told
                self.assertEqual(self.relayer.seals(), told)

    def test_orders(self):
        state = next_height(opening_state(self.config, "east"))
        self.assertEqual(self.relayer.orders(state), [])
        self.receive(8, 1, 7, 0, 6, 2)
        before = inside(state)
        wanted = [("take", "rel", ("deliver", "west", 0, TRANSFER), (0, 1, 2)),
                  ("take", "rel", ("deliver", "west", 2, TRANSFER), (6, 7, 8))]
        self.assertEqual(self.relayer.orders(state), wanted)
        self.assertEqual(inside(state), before)
        self.relayer.crash(1)
        self.assertEqual(self.relayer.orders(state), wanted[1:])

    def test_orders_are_the_ready_orders_for_all_its_seals(self):
        many = 0
        for seed in range(700, 715):
            bridge = grown(seed, 25)
            for side, chain in bridge.chains.items():
                for _ in range(4):
                    letter = bridge.letter(side, chain.state(chain.best()))
                    for name in ("g1", "g2", "g3", "g4", "h1", "h2"):
                        bridge.notary.seal(name, letter)
                every = list(range(bridge.notary.count()))
                seals = bridge.source.sample(every, bridge.source.randint(0, len(every)))
                relayer = Relayer("cat", bridge.config, bridge.notary)
                for seal in seals:
                    relayer.receive(seal)
                state = next_height(chain.state(chain.best()))
                wanted = ready_orders(bridge.config, bridge.notary, state, "cat", seals)
                self.assertEqual(relayer.orders(state), wanted)
                self.assertEqual(relayer.seals(), seals)
                many += len(wanted)
        self.assertGreater(many, 20)

    def test_lists_belong_to_the_caller(self):
        self.receive(0, 1, 2)
        state = next_height(opening_state(self.config, "east"))
        self.relayer.seals().clear()
        self.relayer.orders(state).clear()
        self.assertEqual(self.relayer.seals(), [0, 1, 2])
        self.assertEqual(len(self.relayer.orders(state)), 1)

    def test_relayers_are_apart(self):
        other = Relayer("other", self.config, self.notary)
        self.receive(0)
        self.assertEqual(other.seals(), [])


if __name__ == "__main__":
    unittest.main()
