"""Points 7 and 8: transfers and letters."""

import random
import unittest

from vaultbridge.letters import is_letter, is_transfer, key

KINDS = ["deliver", "return", "cancel", "bundle", "rotate", "stop", "resume"]
NO_TEXTS = [7, 0, None, True, False, (), ("a",)]
NO_INTEGERS = ["1", "", None, True, False, (), (1,)]
BAD_ACCOUNTS = NO_TEXTS + ["", "a" * 21, "a" * 60]


def drawn_account(source):
    return "".join(source.choice("abc XYZ~!0") for _ in range(source.randint(1, 20)))


def drawn_transfer(source):
    units = source.randint(1, 40)
    token = source.choice(["gold", "", "a token with a very long name", "t"])
    fee = source.choice([0, units, source.randint(0, units)])
    return (token, units, fee, drawn_account(source), drawn_account(source), source.choice([0, 1, 99]))


def drawn_guards(source):
    return tuple((name, source.randint(1, 9)) for name in source.sample(["a", "b", "c", "d"], source.randint(1, 4)))


def drawn_letter(source, kind):
    side = source.choice(["west", "east"])
    number = source.choice([0, 1, 7, 10 ** 12])
    if kind == "rotate":
        return (kind, "both", number + 1, drawn_guards(source))
    if kind in ("stop", "resume"):
        return (kind, side, number, ())
    if kind == "bundle":
        many = source.choice([1, 2, 8])
        return (kind, side, number, tuple(drawn_transfer(source) for _ in range(many)))
    return (kind, side, number, drawn_transfer(source))


def spoilt(value, changes):
    """The tuple with each of the changes `(index, part)` made alone, and with a part too few or too many."""
    found = [value[:at] + (part,) + value[at + 1:] for at, part in changes]
    found.extend(value[:at] + value[at + 1:] for at in range(len(value)))
    found.extend(value + (part,) for part in [(), None, 0, "a", value[-1]])
    found.append(())
    return found


def spoilt_transfers(transfer):
    units = transfer[1]
    changes = [(0, part) for part in NO_TEXTS]
    changes += [(1, part) for part in NO_INTEGERS + [0, -1, -units]]
    changes += [(2, part) for part in NO_INTEGERS + [-1, units + 1, units + 50]]
    changes += [(at, part) for at in (3, 4) for part in BAD_ACCOUNTS]
    changes += [(5, part) for part in NO_INTEGERS + [-1, -99]]
    return spoilt(transfer, changes)


def bodies_of_another_kind(kind, source):
    """Bodies that are right for letters of other kinds alone."""
    found = {
        "transfer": drawn_transfer(source), "bundle": (drawn_transfer(source),), "rotate": drawn_guards(source),
        "nothing": (),
    }
    wanted = {"deliver": "transfer", "return": "transfer", "cancel": "transfer", "stop": "nothing",
              "resume": "nothing"}.get(kind, kind)
    del found[wanted]
    return list(found.values())


def spoilt_bodies(kind, body, source):
    found = bodies_of_another_kind(kind, source) + [None, True, False, 0, 7, "", "a", (None,), ((),), ((), ())]
    if kind in ("deliver", "return", "cancel"):
        found += spoilt_transfers(body)
    if kind == "bundle":
        at = source.randrange(len(body))
        found += [body[:at] + (part,) + body[at + 1:] for part in spoilt_transfers(body[at])]
        found += [tuple(drawn_transfer(source) for _ in range(9)), (), body[0]]
    if kind == "rotate":
        name, weight = body[0]
        found += [body + (body[0],), ((name, 0),) + body[1:], ((name, True),) + body[1:], (("", weight),) + body[1:]]
    return found


def spoilt_letters(letter, source):
    kind = letter[0]
    changes = [(0, part) for part in NO_TEXTS + ["", "Deliver", "delivers", "send", "north"]]
    changes += [(1, part) for part in NO_TEXTS + ["", "north", "West", "north"]]
    changes += [(1, "both")] if kind != "rotate" else [(1, "west"), (1, "east")]
    changes += [(2, part) for part in NO_INTEGERS + [-1, -7] + ([0] if kind == "rotate" else [])]
    changes += [(3, part) for part in spoilt_bodies(kind, letter[3], source)]
    return spoilt(letter, changes)


class LettersTest(unittest.TestCase):

    def setUp(self):
        self.random = random.Random(8)

    def test_transfers(self):
        for _ in range(300):
            transfer = drawn_transfer(self.random)
            self.assertIs(is_transfer(transfer), True, transfer)

    def test_edges_of_transfers(self):
        for transfer in [("gold", 1, 0, "a", "b", 0), ("gold", 1, 1, "a", "a", 0), ("", 1, 0, "a" * 20, "b" * 20, 9),
                         ("some token that is not known", 10 ** 20, 10 ** 20, "a", "b", 10 ** 20)]:
            self.assertIs(is_transfer(transfer), True, transfer)

    def test_spoilt_transfers(self):
        for _ in range(60):
            for transfer in spoilt_transfers(drawn_transfer(self.random)):
                self.assertIs(is_transfer(transfer), False, transfer)

    def test_letters(self):
        for kind in KINDS:
            for _ in range(100):
                letter = drawn_letter(self.random, kind)
                self.assertIs(is_letter(letter), True, letter)

    def test_edges_of_letters(self):
        transfer = ("gold", 1, 0, "a", "b", 0)
        for letter in [("deliver", "west", 0, transfer), ("return", "east", 0, transfer),
                       ("cancel", "west", 0, transfer), ("bundle", "east", 0, (transfer,)),
                       ("bundle", "west", 0, (transfer,) * 8), ("rotate", "both", 1, (("a", 1),)),
                       ("stop", "west", 0, ()), ("resume", "east", 0, ())]:
            self.assertIs(is_letter(letter), True, letter)

    def test_spoilt_letters(self):
        for kind in KINDS:
            for _ in range(30):
                for letter in spoilt_letters(drawn_letter(self.random, kind), self.random):
                    self.assertIs(is_letter(letter), False, letter)

    def test_what_is_no_tuple_is_neither(self):
        for value in [None, True, 7, "deliver", ["deliver", "west", 0, ()]]:
            self.assertIs(is_letter(value), False, value)
            self.assertIs(is_transfer(value), False, value)

    def test_the_key_is_the_first_three_parts(self):
        self.assertEqual(key(("stop", "west", 3, ())), ("stop", "west", 3))
        for kind in KINDS:
            letter = drawn_letter(self.random, kind)
            self.assertEqual(key(letter), (letter[0], letter[1], letter[2]))
            self.assertIs(type(key(letter)), tuple)


if __name__ == "__main__":
    unittest.main()
