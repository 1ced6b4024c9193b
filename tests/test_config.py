"""Points 4 and 5: sides and configurations."""

import random
import unittest

from vaultbridge.config import Config, other_side
from vaultbridge.errors import InvalidArgument, UnknownToken

GOLD = ("gold", "west", 3, 20, 8)
SALT = ("salt", "east", 1, 0, 1)
GUARDS = (("ann", 3), ("ben", 1))
BALANCES = [("ann", "gold", 5), ("eve", "salt", 0), ("ann", "gold", 2), ("bob", "salt", 9)]
NO_INTEGERS = [True, False, None, "1", 1.0, (1,), [1]]
BAD_ACCOUNTS = ["", "a" * 21, 7, None, True, ("a",), ["a"], "a\n", "\u00e4"]


def made(**changes):
    parts = {"tokens": [GOLD, SALT], "balances": list(BALANCES), "guards": GUARDS}
    parts.update(changes)
    return Config(**parts)


def with_part(row, at, part):
    return row[:at] + (part,) + row[at + 1:]


class ConfigTest(unittest.TestCase):

    def refuse(self, **changes):
        with self.assertRaises(InvalidArgument, msg=changes):
            made(**changes)

    def test_other_side(self):
        self.assertEqual(other_side("west"), "east")
        self.assertEqual(other_side("east"), "west")

    def test_what_was_given_is_told(self):
        config = made(depth=3, window=5, delay=0, bundle=8)
        self.assertEqual(config.token_names(), ["gold", "salt"])
        for name, home, scale, limit, large in (GOLD, SALT):
            self.assertEqual(config.home(name), home)
            self.assertEqual(config.scale(name), scale)
            self.assertEqual(config.limit(name), limit)
            self.assertEqual(config.large(name), large)
        self.assertEqual(config.opening("west"), [("ann", "gold", 5), ("ann", "gold", 2)])
        self.assertEqual(config.opening("east"), [("eve", "salt", 0), ("bob", "salt", 9)])
        self.assertEqual(config.guards(), GUARDS)
        self.assertEqual((config.depth(), config.window(), config.delay(), config.bundle()), (3, 5, 0, 8))

    def test_numbers_that_are_not_given(self):
        config = made()
        self.assertEqual((config.depth(), config.window(), config.delay(), config.bundle()), (2, 4, 2, 4))

    def test_drawn_configurations(self):
        source = random.Random(5)
        for _ in range(200):
            names = source.sample(["a", "b", "Zoe", "~" * 12, "m n"], source.randint(0, 5))
            tokens = [(name, source.choice(["west", "east"]), source.randint(1, 5), source.randint(0, 9),
                       source.randint(1, 9)) for name in names]
            balances = [(source.choice(["u", "v" * 20]), source.choice(names), source.randint(0, 9))
                        for _ in range(6) if names]
            numbers = {"depth": source.randint(1, 4), "window": source.randint(1, 6), "delay": source.randint(0, 3),
                       "bundle": source.randint(1, 8)}
            config = made(tokens=tokens, balances=balances, **numbers)
            self.assertEqual(config.token_names(), sorted(names))
            for name, home, scale, limit, large in tokens:
                self.assertEqual((config.home(name), config.scale(name)), (home, scale))
                self.assertEqual((config.limit(name), config.large(name)), (limit, large))
            homes = {row[0]: row[1] for row in tokens}
            for side in ("west", "east"):
                self.assertEqual(config.opening(side), [row for row in balances if homes[row[1]] == side])
            self.assertEqual({name: getattr(config, name)() for name in numbers}, numbers)

    def test_edges_that_are_right(self):
        made(tokens=[], balances=[])
        made(balances=[])
        made(tokens=[("a" * 12, "west", 1, 0, 1)], balances=[("b" * 20, "a" * 12, 0)])
        made(depth=1, window=1, delay=0, bundle=1)

    def test_malformed_tokens(self):
        self.refuse(tokens=[GOLD, SALT, GOLD])
        self.refuse(tokens=[GOLD, SALT, ("gold", "east", 1, 1, 1)])
        for bad in ["", "a" * 13, 7, None, True, ("a",), ["a"], "a\t", "\u00e4"]:
            self.refuse(tokens=[with_part(GOLD, 0, bad)], balances=[])
        for bad in ["", "West", "both", "north", 0, None, True, ("west",), ["west"]]:
            self.refuse(tokens=[with_part(GOLD, 1, bad), SALT])
        for at, least in ((2, 1), (3, 0), (4, 1)):
            for bad in NO_INTEGERS + [least - 1, -5]:
                self.refuse(tokens=[with_part(GOLD, at, bad), SALT])
            made(tokens=[with_part(GOLD, at, least), SALT])
        for bad in [(), GOLD[:4], GOLD + (1,), list(GOLD), "gold", None, 7]:
            self.refuse(tokens=[bad], balances=[])

    def test_malformed_balances(self):
        for bad in BAD_ACCOUNTS:
            self.refuse(balances=[(bad, "gold", 1)])
        for bad in ["", "iron", "Gold", 7, None, True, ("gold",), ["gold"]]:
            self.refuse(balances=[("ann", bad, 1)])
        for bad in NO_INTEGERS + [-1, -9]:
            self.refuse(balances=BALANCES + [("ann", "gold", bad)])
        for bad in [(), ("ann", "gold"), ("ann", "gold", 1, 1), ["ann", "gold", 1], "ann", None]:
            self.refuse(balances=[bad])

    def test_malformed_sets(self):
        for bad in [(), (("ann", 1), ("ann", 2)), (("ann", 0),), (("ann", True),), (("ann", "1"),), (("", 1),),
                    (("a" * 21, 1),), (("ann",),), ("ann",), [("ann", 1)], None, 7, "ann"]:
            self.refuse(guards=bad)

    def test_malformed_numbers(self):
        for name, least in (("depth", 1), ("window", 1), ("delay", 0), ("bundle", 1)):
            for bad in NO_INTEGERS + [least - 1, -5]:
                self.refuse(**{name: bad})
        self.refuse(bundle=9)
        self.refuse(bundle=100)

    def test_what_is_no_list(self):
        for bad in [None, 7, "gold", {}]:
            self.refuse(tokens=bad)
            self.refuse(balances=bad)

    def test_unknown_tokens(self):
        config = made()
        for ask in (config.home, config.scale, config.limit, config.large):
            for token in ("", "iron", "Gold", "gold "):
                with self.assertRaises(UnknownToken):
                    ask(token)

    def test_arguments_are_passed_by_name(self):
        with self.assertRaises(TypeError):
            Config([GOLD], [], GUARDS)

    def test_lists_are_neither_changed_nor_kept(self):
        tokens, balances = [SALT, GOLD], list(BALANCES)
        config = made(tokens=tokens, balances=balances)
        self.assertEqual((tokens, balances), ([SALT, GOLD], BALANCES))
        tokens.clear()
        balances.append(("mad", "gold", 99))
        self.assertEqual(config.token_names(), ["gold", "salt"])
        self.assertEqual(config.opening("west"), [("ann", "gold", 5), ("ann", "gold", 2)])

    def test_lists_that_are_returned_belong_to_the_caller(self):
        config = made()
        config.token_names().clear()
        config.opening("west").append("more")
        self.assertEqual(config.token_names(), ["gold", "salt"])
        self.assertEqual(config.opening("west"), [("ann", "gold", 5), ("ann", "gold", 2)])


if __name__ == "__main__":
    unittest.main()
