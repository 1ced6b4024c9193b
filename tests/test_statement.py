"""Points 47 and 54: statements, and their written form."""

import random
import unittest

from tests.bench import inside, ledger, made_config
from tests.test_drawn import SIDES, grown
from tests.test_notation import SIGNS, same_kinds
from vaultbridge.errors import BadNotation
from vaultbridge.notary import Notary
from vaultbridge.notation import write
from vaultbridge.statement import read_statement, statement, write_statement


def is_told(config, value):
    """A second telling of what a statement is."""
    names = config.token_names()
    if type(value) is not tuple or any(type(row) is not tuple or len(row) != 4 for row in value):
        return False
    if [row[0] for row in value] != names:
        return False
    if any(type(part) is not int for row in value for part in row[1:]):
        return False
    return all(vault >= 0 and away >= 0 and vault == away * config.scale(token) + spare
               for token, vault, away, spare in value)


class StatementCase(unittest.TestCase):

    def refuses(self, config, text):
        with self.assertRaises(BadNotation, msg=text) as held:
            read_statement(config, text)
        self.assertIs(type(held.exception), BadNotation)

    def check_text(self, config, text, value):
        """Reads a text that is the written form of a value."""
        if is_told(config, value):
            self.assertEqual(read_statement(config, text), value)
            self.assertTrue(same_kinds(read_statement(config, text), value))
            return True
        self.refuses(config, text)
        return False


class ByHandTest(StatementCase):

    def setUp(self):
        # named in another order than that of the rows
        self.config = made_config(
            tokens=[("salt", "east", 2, 20, 8), ("gold", "west", 3, 20, 8), ("iron", "west", 1, 20, 8)],
            balances=[("ann", "gold", 60), ("ann", "salt", 50), ("ann", "iron", 7)])
        notary = Notary()
        self.chains = [ledger(side, self.config, notary) for side in SIDES]
        self.notary = notary

    def stated(self):
        return statement(self.config, *[chain.state(chain.best()) for chain in self.chains])

    def test_rows(self):
        west, east = self.chains
        self.assertEqual(self.stated(), (("gold", 0, 0, 0), ("iron", 0, 0, 0), ("salt", 0, 0, 0)))
        west.add(1, 0, (("send", "ann", "ben", "gold", 16, 0, 9), ("send", "ann", "ben", "iron", 2, 0, 9)))
        self.assertEqual(self.stated(), (("gold", 15, 0, 15), ("iron", 2, 0, 2), ("salt", 0, 0, 0)))
        letter = ("deliver", "west", 0, ("gold", 5, 0, "ann", "ben", 9))
        seals = tuple(self.notary.seal(name, letter) for name in ("g1", "g2", "g3"))
        east.add(1, 0, (("take", "rel", letter, seals), ("bond", "ben", "gold", 2)))
        self.assertEqual(self.stated(), (("gold", 15, 5, 0), ("iron", 2, 0, 2), ("salt", 0, 0, 0)))
        east.add(2, 1, (("send", "ben", "ann", "gold", 1, 0, 9), ("send", "ann", "ann", "salt", 8, 0, 9)))
        self.assertEqual(self.stated(), (("gold", 15, 4, 3), ("iron", 2, 0, 2), ("salt", 8, 0, 8)))
        self.assertEqual(write_statement(self.stated()), "((4:gold,15,4,3),(4:iron,2,0,2),(4:salt,8,0,8))")

    def test_a_shortfall_is_a_negative_spare(self):
        east = self.chains[1]
        letter = ("deliver", "west", 0, ("gold", 5, 1, "ann", "ben", 9))
        east.add(1, 0, (("take", "rel", letter, tuple(self.notary.seal(name, letter) for name in ("g1", "g2", "g3"))),))
        self.assertEqual(self.stated()[0], ("gold", 0, 5, -15))
        text = write_statement(self.stated())
        self.assertEqual(text, "((4:gold,0,5,-15),(4:iron,0,0,0),(4:salt,0,0,0))")
        self.assertEqual(read_statement(self.config, text), self.stated())

    def test_reading_by_hand(self):
        zero, iron, salt = ("gold", 0, 0, 0), ("iron", 2, 0, 2), ("salt", 8, 1, 6)
        self.assertTrue(self.check_text(self.config, write((zero, iron, salt)), (zero, iron, salt)))
        for rows in ((), (zero,), (zero, iron), (iron, salt), (zero, salt, iron), (zero, iron, salt, salt),
                     (zero, zero, iron, salt), (salt, iron, zero), [("gold", 0, 0, 0, 0), iron, salt],
                     (("gold", 0, 0), iron, salt), (("gold", -3, 0, -3), iron, salt), (("gold", 3, -1, 6), iron, salt),
                     (("gold", 3, 1, 1), iron, salt), (("gold", 3, 1, -1), iron, salt), (("gold", "0", 0, 0), iron, salt),
                     (("gold", 0, "0", 0), iron, salt), (("gold", 0, 0, "0"), iron, salt), (("gold", 0, 0, ()), iron, salt),
                     (("gold", (), 0, 0), iron, salt), (("Gold", 0, 0, 0), iron, salt), ((0, 0, 0, 0), iron, salt),
                     ((("gold",), 0, 0, 0), iron, salt), (0, iron, salt), ("gold", iron, salt), ((), iron, salt),
                     (zero, iron, ("salt", 8, 1, 5)), (zero, iron, ("salt", 8, 1, 7)), 0, "", "gold", zero):
            text = write(tuple(rows) if isinstance(rows, list) else rows)
            self.refuses(self.config, text)

    def test_texts_that_are_no_written_forms(self):
        text = write_statement(self.stated())
        for wrong in ("", " " + text, text + " ", text[:-1], text[1:], text + ")", text.replace("0", "00"),
                      text.replace("0", "-0"), text.replace("0", "+0"), text.replace("0", "0.0"), text + text,
                      text.replace(",", ", "), text.replace("4:", "04:"), text.replace("4:", "5:"), chr(233)):
            self.refuses(self.config, wrong)

    def test_other_tokens(self):
        text = write_statement(self.stated())
        for names in (["gold", "iron"], ["gold", "iron", "salt", "tin"], ["gold", "iron", "sale"], []):
            config = made_config(tokens=[(name, "west", 1, 1, 1) for name in names], balances=[])
            self.refuses(config, text)
            zeros = tuple((name, 0, 0, 0) for name in names)
            self.assertEqual(read_statement(config, write_statement(zeros)), zeros)

    def test_numbers_of_many_digits(self):
        config = made_config(tokens=[("gold", "west", 10 ** 10, 1, 1)], balances=[])
        rows = (("gold", 10 ** 40 - 1, 10 ** 30 - 1, 10 ** 40 - 1 - (10 ** 30 - 1) * 10 ** 10),)
        self.assertEqual(read_statement(config, write_statement(rows)), rows)
        self.refuses(config, write_statement((("gold", 10 ** 40, 0, 10 ** 40),)))


class DrawnTest(StatementCase):

    def statements(self):
        """Statements about drawn states, most of which are of no matching blocks."""
        for seed in range(1300, 1320):
            bridge = grown(seed, 25)
            for _ in range(8):
                states = [bridge.chains[side].state(bridge.draw(*bridge.chains[side].numbers())) for side in SIDES]
                before = inside(states)
                found = statement(bridge.config, *states)
                self.assertEqual(inside(states), before)
                yield bridge.config, states, found

    def test_rows(self):
        seen = set()
        for config, states, found in self.statements():
            by_side = dict(zip(SIDES, states))
            rows = []
            for token in sorted(config.token_names()):
                vault = by_side[config.home(token)].vault(token)
                away = by_side["east" if config.home(token) == "west" else "west"].circulating(token)
                rows.append((token, vault, away, vault - away * config.scale(token)))
                seen.add((token, (rows[-1][3] > 0) - (rows[-1][3] < 0)))
            self.assertEqual(found, tuple(rows))
            self.assertIs(type(found), tuple)
        self.assertEqual(len(seen), 6)

    def test_written_and_read(self):
        for config, _, found in self.statements():
            self.assertEqual(write_statement(found), write(found))
            self.assertTrue(self.check_text(config, write_statement(found), found))

    def changed(self, source, found):
        """The statement with a part or a row changed, left out, doubled or exchanged."""
        rows = [list(row) for row in found]
        at, other, part = source.randrange(len(rows)), source.randrange(len(rows)), source.randrange(4)
        deed = source.choice(["number", "both", "name", "kind", "out", "double", "exchange", "row out", "row double",
                              "row exchange"])
        if deed == "number":
            rows[at][source.randint(1, 3)] += source.choice([1, -1, 3, -3, -100])
        elif deed == "both":
            change = source.choice([1, -1, -100])
            rows[at][1] += change
            rows[at][3] += change
        elif deed == "name":
            rows[at][0] = source.choice(["gold", "salt", "iron", ""])
        elif deed == "kind":
            rows[at][part] = source.choice([str(rows[at][part]), (rows[at][part],), ()])
        elif deed == "out":
            del rows[at][part]
        elif deed == "double":
            rows[at].insert(part, rows[at][part])
        elif deed == "exchange":
            second = source.randrange(4)
            rows[at][part], rows[other][second] = rows[other][second], rows[at][part]
        elif deed == "row out":
            del rows[at]
        elif deed == "row double":
            rows.insert(at, rows[at])
        else:
            rows[at], rows[other] = rows[other], rows[at]
        return tuple(tuple(row) for row in rows)

    def test_changed_statements(self):
        source, counts = random.Random(54), {True: 0, False: 0}
        for config, _, found in self.statements():
            for _ in range(12):
                value = self.changed(source, found)
                counts[self.check_text(config, write(value), value)] += 1
        self.assertGreater(min(counts.values()), 200)

    def test_changed_texts(self):
        source, counts = random.Random(55), {True: 0, False: 0}
        for config, _, found in self.statements():
            for _ in range(12):
                text = write_statement(found)
                at = source.randrange(len(text))
                text = text[:at] + source.choice(SIGNS) + text[at + source.randint(0, 1):]
                try:
                    value = read_statement(config, text)
                except BadNotation:
                    counts[False] += 1
                    continue
                counts[True] += 1
                self.assertEqual(write(value), text)
                self.assertTrue(is_told(config, value))
        self.assertGreater(min(counts.values()), 10)


if __name__ == "__main__":
    unittest.main()
