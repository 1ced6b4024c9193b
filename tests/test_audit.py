"""Points 17, 23 and 24: looking at two states from outside."""

import unittest

from tests.bench import GOLD, SALT, inside, made_config
from tests.model import Model
from tests.test_drawn import SIDES, grown
from vaultbridge.audit import open_transfers, shortfalls
from vaultbridge.gateway import next_height, outcome
from vaultbridge.notary import Notary
from vaultbridge.state import opening_state

SENT = ("gold", 3, 1, "ann", "ben", 4)
LARGE = ("gold", 8, 0, "ann", "ben", 4)
BACK = ("gold", 2, 0, "ben", "ann", 9)


def told_shortfalls(config, models):
    """A second telling of what the vaults lack."""
    found = []
    for token, home, scale, _, _ in sorted(config):
        away = "east" if home == "west" else "west"
        if models[home].amount(("vault",), token) - models[away].circulating(token) * scale < 0:
            found.append(token)
    return found


def told_open(models):
    found = []
    for side, other in (SIDES, SIDES[::-1]):
        found += [(side, number) for number in range(len(models[side].transfers()))
                  if models[other].taken(number) != "delivered" and not models[side].is_returned(number)]
    return found


class DrawnAuditTest(unittest.TestCase):

    def test_drawn_states(self):
        counts = {}
        for seed in range(600, 640):
            bridge = grown(seed, 30)
            rows = [("gold", "west", 3, 7, 5), ("salt", "east", 1, 6, 5)]
            for _ in range(3):
                states, models = {}, {}
                for side in SIDES:
                    chain = bridge.chains[side]
                    number = bridge.draw(chain.best(), *chain.numbers())
                    states[side] = chain.state(number)
                    models[side] = Model(bridge.config, bridge.notary, side)
                    for block in chain.line(number):
                        models[side].height = chain.height(block)
                        for order in chain.orders(block):
                            models[side].do(order)
                before = inside(states)
                short, left = told_shortfalls(rows, models), told_open(models)
                self.assertEqual(shortfalls(bridge.config, states["west"], states["east"]), short)
                self.assertEqual(open_transfers(states["west"], states["east"]), left)
                self.assertEqual(inside(states), before)
                for found in [tuple(short)] + [side for side, _ in left]:
                    counts[found] = counts.get(found, 0) + 1
        self.assertTrue({(), ("gold",), ("salt",), ("gold", "salt"), "west", "east"} <= set(counts), counts)


class AuditTest(unittest.TestCase):

    def setUp(self):
        self.config = made_config(tokens=[SALT, GOLD], delay=0)
        self.notary = Notary()
        self.states = {side: opening_state(self.config, side) for side in SIDES}

    def do(self, side, *order):
        self.states[side] = outcome(self.config, self.notary, self.states[side], order)[0]

    def bring(self, side, *letter):
        seals = tuple(self.notary.seal(name, letter) for name in ("g1", "g2", "g3"))
        self.do(side, "take", "rel", letter, seals)

    def check(self, short, left):
        self.assertEqual(shortfalls(self.config, *self.states.values()), short)
        self.assertEqual(open_transfers(*self.states.values()), left)

    def test_from_the_home_side_and_back(self):
        self.check([], [])
        self.do("west", "send", "ann", "ben", "gold", 9, 1, 4)
        self.check([], [("west", 0)])
        self.bring("east", "deliver", "west", 0, SENT)
        self.check([], [])
        self.do("east", "send", "ben", "ann", "gold", 2, 0, 9)
        self.check([], [("east", 0)])
        self.bring("west", "deliver", "east", 0, BACK)
        self.check([], [])

    def test_refused_and_given_back(self):
        self.do("west", "send", "ann", "ben", "gold", 9, 1, 4)
        for _ in range(5):
            self.states["east"] = next_height(self.states["east"])
        self.bring("east", "deliver", "west", 0, SENT)
        self.assertEqual(self.states["east"].taken(0), "refused")
        self.check([], [("west", 0)])
        self.bring("west", "return", "west", 0, SENT)
        self.check([], [])

    def test_those_that_wait_are_open(self):
        self.do("west", "send", "ann", "ben", "gold", 24, 0, 4)
        self.bring("east", "deliver", "west", 0, LARGE)
        self.assertEqual(self.states["east"].waiting(), [0])
        self.check([], [("west", 0)])
        self.do("east", "claim", "rel", 0)
        self.check([], [])

    def test_the_scale_and_the_bonds_count(self):
        self.bring("east", "deliver", "west", 0, ("gold", 3, 0, "ann", "g1", 4))
        self.do("east", "bond", "g1", "gold", 2)
        self.check(["gold"], [])
        self.do("west", "send", "ann", "ben", "gold", 8, 0, 4)
        self.check(["gold"], [])
        self.do("west", "send", "ann", "ben", "gold", 3, 0, 4)
        self.check([], [("west", 1)])

    def test_both_sides_in_ascending_order(self):
        self.bring("east", "deliver", "west", 7, SENT)
        self.bring("west", "deliver", "east", 9, ("salt", 1, 0, "ann", "ben", 4))
        self.check(["gold", "salt"], [])
        self.do("east", "send", "ann", "ben", "salt", 2, 0, 4)
        for _ in range(3):
            self.do("west", "send", "ann", "ben", "gold", 3, 0, 4)
        self.check([], [("west", 0), ("west", 1), ("west", 2), ("east", 0)])
        self.bring("east", "deliver", "west", 1, ("gold", 1, 0, "ann", "ben", 4))
        self.check(["gold"], [("west", 0), ("west", 2), ("east", 0)])

    def test_lists_belong_to_the_caller(self):
        self.bring("east", "deliver", "west", 7, SENT)
        self.do("west", "send", "ann", "ben", "gold", 3, 0, 4)
        shortfalls(self.config, *self.states.values()).clear()
        open_transfers(*self.states.values()).clear()
        self.check(["gold"], [("west", 0)])


if __name__ == "__main__":
    unittest.main()
