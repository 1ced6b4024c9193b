"""What the tests of ledgers and gateways share."""

import unittest

from vaultbridge.chain import Chain
from vaultbridge.config import Config
from vaultbridge.gateway import next_height, outcome
from vaultbridge.notary import Notary
from vaultbridge.state import opening_state
from vaultbridge.view import View

# a total of 4, so that the threshold is 3 and the minority 2
GUARDS = (("g1", 1), ("g2", 1), ("g3", 1), ("g4", 1))
GOLD = ("gold", "west", 3, 20, 8)
SALT = ("salt", "east", 2, 20, 8)
TOKENS = [GOLD, SALT]
BALANCES = [("ann", "gold", 60), ("ben", "gold", 10), ("ann", "salt", 60), ("g1", "gold", 9), ("g1", "salt", 9),
            ("out", "gold", 9), ("out", "salt", 9)]
ACCOUNTS = ["ann", "ben", "cat", "rel", "out", "nobody", "g1", "g2", "g3", "g4", "h1", "h2"]
THREE = ("g1", "g2", "g3")


def made_config(**changes):
    parts = {"tokens": TOKENS, "balances": BALANCES, "guards": GUARDS, "depth": 2, "window": 3, "delay": 2}
    parts.update(changes)
    return Config(**parts)


def shown(config, state, numbers=range(-1, 30), accounts=ACCOUNTS):
    """All that a state tells."""
    tokens = config.token_names() + ["iron"]
    sets = [state.guards(epoch) for epoch in range(state.epoch() + 1)]
    return {
        "head": (state.side(), state.height(), state.epoch(), state.is_stopped(), state.stops()),
        "balances": {(name, token): state.balance(name, token) for name in accounts for token in tokens},
        "bonds": {(name, token): state.bonded(name, token) for name in accounts for token in tokens},
        "vaults": [state.vault(token) for token in tokens],
        "circulating": [state.circulating(token) for token in tokens],
        "sets": sets,
        "transfers": state.transfers(),
        "taken": [state.taken(number) for number in numbers],
        "waiting": state.waiting(),
        "returned": [state.is_returned(number) for number in numbers],
        "bonders": [state.bonded_guards(token) for token in config.token_names()],
    }


def inside(value):
    """All that an object holds, down to plain values, in a form that can be compared."""
    if isinstance(value, dict):
        return [(key, inside(value[key])) for key in value]
    if isinstance(value, (list, tuple)):
        return [inside(part) for part in value]
    if hasattr(value, "__dict__"):
        return [(name, inside(part)) for name, part in sorted(vars(value).items())]
    return value


class Bench(unittest.TestCase):
    """A notary and a state at which orders are tried, one after the other."""

    def setUp(self):
        self.begin("east")

    def begin(self, side, **changes):
        self.config = made_config(**changes)
        self.notary = Notary()
        self.state = opening_state(self.config, side)

    def seals(self, letter, names=THREE):
        return tuple(self.notary.seal(name, letter) for name in names)

    def taking(self, letter, names=THREE):
        return ("take", "rel", letter, self.seals(letter, names))

    def do(self, order):
        """Carries an order out, checks that the state that is handed in stays as it is, and returns the events."""
        before = inside(self.state)
        pair = outcome(self.config, self.notary, self.state, order)
        self.assertIs(type(pair), tuple)
        state, events = pair
        self.assertIs(type(events), list)
        self.assertEqual(inside(self.state), before)
        self.assertIsNot(state, self.state)
        self.assertEqual(state.height(), self.state.height())
        self.state = state
        return events

    def take(self, letter, names=THREE):
        return self.do(self.taking(letter, names))

    def fail_with(self, error, order):
        """Checks that an order raises this very error and changes nothing."""
        before = inside(self.state)
        with self.assertRaises(error) as held:
            outcome(self.config, self.notary, self.state, order)
        self.assertIs(type(held.exception), error)
        self.assertEqual(inside(self.state), before)

    def fail_to_take(self, error, letter, names=THREE):
        self.fail_with(error, self.taking(letter, names))

    def rise(self, many=1):
        for _ in range(many):
            self.state = next_height(self.state)

    def has(self, **balances):
        """Checks balances of gold."""
        self.assertEqual({name: self.state.balance(name, "gold") for name in balances}, balances)


def ledger(side="west", config=None, notary=None):
    return Chain(side, config or made_config(), notary or Notary())


def watching(chain, numbers):
    """A view that was shown these blocks, in this order."""
    view = View(chain)
    for number in numbers:
        view.show(number)
    return view
