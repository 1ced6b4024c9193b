"""Points 6 and 53: seats for guards by their bonds."""

import random
import unittest
from fractions import Fraction

from tests.bench import inside, ledger, made_config
from tests.test_drawn import grown
from vaultbridge.errors import InvalidArgument, UnknownToken
from vaultbridge.sets import is_set, total
from vaultbridge.shares import next_set, shares

NAMES = ["a", "aa", "b", "g1", "g10", "g2", "Z"]


def told_shares(bonds, seats):
    """A second telling: the seats go one by one to whom the most of a seat is missing."""
    bonded = sum(bond for _, bond in bonds)
    exact = {guard: Fraction(seats * bond, bonded) for guard, bond in bonds}
    seated = {guard: int(exact[guard]) for guard in exact}
    remainders = {guard: exact[guard] - seated[guard] for guard in exact}
    while sum(seated.values()) < seats:
        most = max(remainders.values())
        guard = min(name for name in remainders if remainders[name] == most)
        seated[guard] += 1
        del remainders[guard]
    return tuple((guard, seated[guard]) for guard in sorted(seated) if seated[guard])


class SharesTest(unittest.TestCase):

    def refuses(self, bonds, seats):
        before = list(bonds)
        with self.assertRaises(InvalidArgument) as held:
            shares(bonds, seats)
        self.assertIs(type(held.exception), InvalidArgument)
        self.assertEqual(bonds, before)

    def test_by_hand(self):
        self.assertEqual(shares([("g1", 5)], 1), (("g1", 1),))
        self.assertEqual(shares([("g1", 5)], 9), (("g1", 9),))
        self.assertEqual(shares([("g2", 1), ("g1", 1)], 3), (("g1", 2), ("g2", 1)))
        self.assertEqual(shares([("g2", 1), ("g1", 1), ("g3", 1)], 2), (("g1", 1), ("g2", 1)))
        # the exact shares are 4.7, 1.6, 0.7 and 0
        self.assertEqual(shares([("d", 0), ("c", 7), ("b", 16), ("a", 47)], 7), (("a", 5), ("b", 1), ("c", 1)))
        # 6.3, 2.1 and 0.6: the greatest remainder is that of the one with the least bond
        self.assertEqual(shares([("a", 63), ("b", 21), ("c", 6)], 9), (("a", 6), ("b", 2), ("c", 1)))
        # 8.4, 0.3 and 0.3: the last seat goes by the remainder, and those without one are left out
        self.assertEqual(shares([("a", 28), ("b", 1), ("c", 1)], 9), (("a", 9),))
        self.assertEqual(shares([("Z", 1), ("a", 1)], 1), (("Z", 1),))
        self.assertEqual(shares([("g2", 1), ("g10", 1)], 1), (("g10", 1),))

    def drawn_bonds(self, source):
        names = source.sample(NAMES, source.randint(1, 7))
        kinds = source.choice([[0, 1], [3], [0, 1, 2, 3], [1, 100], [0, 1, 10 ** 30], list(range(50))])
        return [(name, source.choice(kinds)) for name in names]

    def test_drawn_bonds(self):
        source, ties = random.Random(53), 0
        for _ in range(3000):
            bonds, seats = self.drawn_bonds(source), source.choice([source.randint(1, 20), 10 ** 25])
            if not sum(bond for _, bond in bonds):
                self.refuses(bonds, seats)
                continue
            before = list(bonds)
            found = shares(bonds, seats)
            self.assertEqual(bonds, before)
            self.assertEqual(found, told_shares(bonds, seats))
            self.check(bonds, seats, found)
            ties += len(set(bonds)) > len({bond for _, bond in bonds})
        self.assertGreater(ties, 1000)

    def check(self, bonds, seats, found):
        self.assertTrue(is_set(found))
        self.assertEqual(total(found), seats)
        self.assertEqual(list(found), sorted(found))
        bonded, seated = sum(bond for _, bond in bonds), dict(found)
        for guard, bond in bonds:
            exact = Fraction(seats * bond, bonded)
            self.assertLess(abs(seated.get(guard, 0) - exact), 1)
            self.assertTrue(bond or guard not in seated)

    def test_the_order_of_the_bonds_does_not_matter(self):
        source = random.Random(54)
        for _ in range(300):
            bonds = self.drawn_bonds(source) + [("other", 1)]
            again = source.sample(bonds, len(bonds))
            self.assertEqual(shares(bonds, 7), shares(again, 7))

    def test_no_seats_and_no_bonds(self):
        for seats in (0, -1, -20):
            self.refuses([("g1", 5), ("g2", 1)], seats)
            self.refuses([("g1", 0)], seats)
            self.refuses([], seats)
        for bonds in ([], [("g1", 0)], [("g1", 0), ("g2", 0), ("g3", 0)]):
            self.refuses(bonds, 1)
            self.refuses(bonds, 20)


class NextSetTest(unittest.TestCase):

    def raises(self, error, state, token, seats):
        before = inside(state)
        with self.assertRaises(error) as held:
            next_set(state, token, seats)
        self.assertIs(type(held.exception), error)
        self.assertEqual(inside(state), before)

    def test_by_hand(self):
        names = ("h1", "out", "ann", "ben")
        chain = ledger(config=made_config(balances=[(name, "gold", 90) for name in names] + [("out", "salt", 9)]))
        bonds = [("bond", "out", "gold", 60), ("bond", "h1", "gold", 25), ("bond", "ann", "gold", 15),
                 ("bond", "ben", "gold", 5), ("unbond", "ben", "gold", 5)]
        chain.add(1, 0, tuple(bonds))
        state = chain.state(1)
        self.assertEqual(chain.receipts(1), ["done"] * 5)
        self.assertEqual(next_set(state, "gold", 10), (("ann", 2), ("h1", 2), ("out", 6)))
        self.assertEqual(next_set(state, "gold", 1), (("out", 1),))
        self.raises(InvalidArgument, state, "gold", 0)
        self.raises(InvalidArgument, state, "salt", 5)
        self.raises(InvalidArgument, chain.state(0), "gold", 5)
        for seats in (5, 0, -1):
            self.raises(UnknownToken, state, "iron", seats)
        self.assertEqual(next_set(state, "gold", 10), (("ann", 2), ("h1", 2), ("out", 6)))

    def test_drawn_states(self):
        many = 0
        for seed in range(1200, 1230):
            bridge = grown(seed, 25)
            for chain in bridge.chains.values():
                state = chain.state(chain.best())
                for token in ("gold", "salt"):
                    bonds = [(guard, state.bonded(guard, token)) for guard in state.bonded_guards(token)]
                    if not bonds:
                        self.raises(InvalidArgument, state, token, 7)
                        continue
                    before = inside(state)
                    for seats in (1, 2, 7, 20):
                        self.assertEqual(next_set(state, token, seats), told_shares(bonds, seats))
                    self.assertEqual(inside(state), before)
                    many += 1
        self.assertGreater(many, 20)


if __name__ == "__main__":
    unittest.main()
