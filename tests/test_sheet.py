"""Point 17: the sheet."""

import random
import unittest

from tests.bench import made_config
from vaultbridge.errors import NotEnoughBalance
from vaultbridge.sheet import Sheet

NAMES = ["ann", "ben", "cat"]
SCALES = {"gold": 3, "salt": 2}
BALANCES = [("ann", "gold", 10), ("ann", "gold", 2), ("ben", "gold", 7), ("ann", "salt", 8), ("cat", "salt", 1)]


def made_sheet(side):
    return Sheet(made_config(balances=BALANCES), side)


def told(sheet):
    tokens = list(SCALES)
    return {
        "balances": {(name, token): sheet.balance(name, token) for name in NAMES for token in tokens},
        "bonds": {(name, token): sheet.bonded(name, token) for name in NAMES for token in tokens},
        "vaults": {token: sheet.vault(token) for token in tokens},
    }


def drawn_call(source, side):
    """A drawn call: its name, its arguments, and by how much it changes what `told` tells."""
    home, away = ("gold", "salt") if side == "west" else ("salt", "gold")
    word = source.choice(["move", "lock", "release", "mint", "burn", "bond", "unbond"])
    token = home if word in ("lock", "release") else away if word in ("mint", "burn") else source.choice([home, away])
    name, other = source.choice(NAMES), source.choice(NAMES)
    amount = source.randint(0, 6)
    worth = amount * SCALES[token] if word in ("lock", "release") else amount
    balance, vault, bond = ("balances", (name, token)), ("vaults", token), ("bonds", (name, token))
    changes = {
        "move": [(balance, -worth), (("balances", (other, token)), worth)],
        "lock": [(balance, -worth), (vault, worth)],
        "release": [(vault, -worth), (balance, worth)],
        "mint": [(balance, worth)],
        "burn": [(balance, -worth)],
        "bond": [(balance, -worth), (bond, worth)],
        "unbond": [(bond, -worth), (balance, worth)],
    }[word]
    arguments = (name, other, token, amount) if word == "move" else (name, token, amount)
    return word, arguments, changes


class SheetTest(unittest.TestCase):

    def test_opening_sheets(self):
        west, east = made_sheet("west"), made_sheet("east")
        self.assertEqual([west.balance(name, "gold") for name in NAMES], [12, 7, 0])
        self.assertEqual([west.balance(name, "salt") for name in NAMES], [0, 0, 0])
        self.assertEqual([east.balance(name, "gold") for name in NAMES], [0, 0, 0])
        self.assertEqual([east.balance(name, "salt") for name in NAMES], [8, 0, 1])
        for sheet in (west, east):
            self.assertEqual([sheet.vault(token) for token in ("gold", "salt")], [0, 0])
            self.assertEqual([sheet.bonded(name, token) for name in NAMES for token in SCALES], [0] * 6)
        self.assertEqual([west.circulating(token) for token in ("gold", "salt")], [19, 0])
        self.assertEqual([east.circulating(token) for token in ("gold", "salt")], [0, 9])

    def test_drawn_calls(self):
        source = random.Random(17)
        refused = 0
        for side in ("west", "east"):
            for _ in range(30):
                sheet = made_sheet(side)
                for _ in range(60):
                    refused += self.check_call(sheet, source, side)
        self.assertGreater(refused, 300)

    def check_call(self, sheet, source, side):
        word, arguments, changes = drawn_call(source, side)
        wanted = told(sheet)
        before = told(sheet)
        enough = True
        for (part, at), change in changes:
            wanted[part][at] += change
            enough = enough and wanted[part][at] >= 0
        if enough:
            self.assertIsNone(getattr(sheet, word)(*arguments))
        else:
            with self.assertRaises(NotEnoughBalance):
                getattr(sheet, word)(*arguments)
        self.assertEqual(told(sheet), wanted if enough else before, (word, arguments))
        for token in SCALES:
            held = [amounts[at] for amounts in (told(sheet)["balances"], told(sheet)["bonds"])
                    for at in amounts if at[1] == token]
            self.assertEqual(sheet.circulating(token), sum(held))
        return not enough

    def at_the_edge(self, sheet, word, arguments, most):
        """The call takes `most` and not one more; one below leaves one for later."""
        for amount in (most + 1, most + 50):
            before = told(sheet)
            with self.assertRaises(NotEnoughBalance):
                getattr(sheet, word)(*arguments, amount)
            self.assertEqual(told(sheet), before)
        getattr(sheet, word)(*arguments, most - 1)
        getattr(sheet, word)(*arguments, 1)
        with self.assertRaises(NotEnoughBalance):
            getattr(sheet, word)(*arguments, 1)
        getattr(sheet, word)(*arguments, 0)

    def test_amounts_at_above_and_below_what_is_there(self):
        west, east = made_sheet("west"), made_sheet("east")
        self.at_the_edge(west, "move", ("ben", "cat", "gold"), 7)
        self.at_the_edge(west, "lock", ("ann", "gold"), 4)
        self.assertEqual((west.balance("ann", "gold"), west.vault("gold")), (0, 12))
        self.at_the_edge(west, "release", ("cat", "gold"), 4)
        self.assertEqual((west.balance("cat", "gold"), west.vault("gold")), (19, 0))
        self.at_the_edge(west, "bond", ("cat", "gold"), 19)
        self.assertEqual((west.balance("cat", "gold"), west.bonded("cat", "gold")), (0, 19))
        self.at_the_edge(west, "unbond", ("cat", "gold"), 19)
        east.mint("ben", "gold", 5)
        self.assertEqual((east.balance("ben", "gold"), east.vault("gold"), east.circulating("gold")), (5, 0, 5))
        self.at_the_edge(east, "burn", ("ben", "gold"), 5)
        self.assertEqual(east.circulating("gold"), 0)

    def test_units_that_the_balance_does_not_fill(self):
        sheet = made_sheet("west")
        with self.assertRaises(NotEnoughBalance):
            sheet.lock("ben", "gold", 3)
        sheet.lock("ben", "gold", 2)
        self.assertEqual((sheet.balance("ben", "gold"), sheet.vault("gold")), (1, 6))

    def test_an_account_that_pays_itself(self):
        sheet = made_sheet("west")
        for amount in (0, 6, 7):
            sheet.move("ben", "ben", "gold", amount)
            self.assertEqual(sheet.balance("ben", "gold"), 7)
        with self.assertRaises(NotEnoughBalance):
            sheet.move("ben", "ben", "gold", 8)
        self.assertEqual(sheet.balance("ben", "gold"), 7)

    def test_tokens_are_apart(self):
        sheet = made_sheet("west")
        sheet.mint("ann", "salt", 4)
        sheet.bond("ann", "salt", 3)
        with self.assertRaises(NotEnoughBalance):
            sheet.unbond("ann", "gold", 1)
        with self.assertRaises(NotEnoughBalance):
            sheet.unbond("ben", "salt", 1)
        self.assertEqual((sheet.balance("ann", "gold"), sheet.balance("ann", "salt")), (12, 1))
        self.assertEqual((sheet.circulating("gold"), sheet.circulating("salt")), (19, 4))

    def test_a_copy_is_independent(self):
        for side in ("west", "east"):
            source = random.Random(170)
            sheet = made_sheet(side)
            for _ in range(40):
                self.check_call(sheet, source, side)
            copy = sheet.copy()
            self.assertIsInstance(copy, Sheet)
            kept = told(sheet)
            self.assertEqual(told(copy), kept)
            for _ in range(40):
                self.check_call(copy, source, side)
            self.assertNotEqual(told(copy), kept)
            self.assertEqual(told(sheet), kept)
            kept = told(copy)
            for _ in range(40):
                self.check_call(sheet, source, side)
            self.assertEqual(told(copy), kept)


if __name__ == "__main__":
    unittest.main()
