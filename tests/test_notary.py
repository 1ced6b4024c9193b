"""Points 9 and 10: the notary."""

import random
import unittest

from tests.test_letters import KINDS, drawn_letter, spoilt_letters
from vaultbridge.errors import InvalidOrder, UnknownSeal
from vaultbridge.notary import Notary

GUARDS = ["a", "b", "c", "d", "e"]


class NotaryTest(unittest.TestCase):

    def setUp(self):
        self.random = random.Random(9)
        self.letters = [drawn_letter(self.random, kind) for kind in KINDS for _ in range(2)]

    def test_the_table_is_empty_at_first(self):
        notary = Notary()
        self.assertEqual(notary.count(), 0)
        for number in (0, -1, 1):
            with self.assertRaises(UnknownSeal):
                notary.shown(number)

    def test_the_same_guard_and_letter_give_the_same_number(self):
        notary = Notary()
        table = []
        for _ in range(500):
            entry = (self.random.choice(GUARDS), self.random.choice(self.letters))
            if entry not in table:
                table.append(entry)
            self.assertEqual(notary.seal(*entry), table.index(entry))
            self.assertEqual(notary.count(), len(table))
        self.assertEqual([notary.shown(number) for number in range(notary.count())], table)

    def test_two_notaries_have_two_tables(self):
        one, other = Notary(), Notary()
        one.seal("a", self.letters[0])
        self.assertEqual(other.count(), 0)
        self.assertEqual(other.seal("b", self.letters[0]), 0)

    def test_shown_of_unknown_numbers(self):
        notary = Notary()
        for name in GUARDS:
            notary.seal(name, self.letters[0])
        for number in (-1, -5, -6, 5, 6, 10 ** 9):
            with self.assertRaises(UnknownSeal):
                notary.shown(number)

    def test_a_letter_that_is_refused_adds_nothing(self):
        notary = Notary()
        notary.seal("a", self.letters[0])
        for kind in KINDS:
            for letter in spoilt_letters(drawn_letter(self.random, kind), self.random):
                with self.assertRaises(InvalidOrder):
                    notary.seal("a", letter)
        self.assertEqual(notary.count(), 1)
        self.assertEqual(notary.seal("b", self.letters[0]), 1)

    def test_weight_of_drawn_seals(self):
        notary = Notary()
        for letter in self.letters:
            for name in GUARDS:
                if self.random.random() < 0.7:
                    notary.seal(name, letter)
        for _ in range(500):
            names = self.random.sample(GUARDS, self.random.randint(1, 4))
            guards = tuple((name, self.random.randint(1, 50)) for name in names)
            letter = self.random.choice(self.letters)
            seals = [self.random.randrange(notary.count()) for _ in range(self.random.randint(0, 90))]
            shown = [notary.shown(number) for number in seals]
            wanted = sum(weight for name, weight in guards if (name, letter) in shown)
            self.assertEqual(notary.weight(guards, letter, seals), wanted)
            self.assertEqual(notary.weight(guards, letter, tuple(seals)), wanted)

    def test_weight_counts_each_guard_once_and_for_this_letter_alone(self):
        notary = Notary()
        guards = (("a", 5), ("b", 7), ("c", 11))
        letter, other = ("stop", "west", 0, ()), ("stop", "west", 1, ())
        mine = notary.seal("a", letter)
        elsewhere = notary.seal("b", other)
        stranger = notary.seal("x", letter)
        self.assertEqual(notary.weight(guards, letter, []), 0)
        self.assertEqual(notary.weight(guards, letter, [mine]), 5)
        self.assertEqual(notary.weight(guards, letter, [mine, mine, mine]), 5)
        self.assertEqual(notary.weight(guards, letter, [stranger, elsewhere]), 0)
        self.assertEqual(notary.weight(guards, letter, [elsewhere, mine, stranger, mine]), 5)
        self.assertEqual(notary.weight(guards, other, [elsewhere, mine, stranger]), 7)
        self.assertEqual(notary.weight(guards, letter, [mine, notary.seal("b", letter)]), 12)

    def test_weight_of_unknown_seals(self):
        notary = Notary()
        letter = ("stop", "west", 0, ())
        known = notary.seal("a", letter)
        for number in (-1, 1, 2, 99):
            for seals in ([number], [known, number], (number, known)):
                with self.assertRaises(UnknownSeal):
                    notary.weight((("a", 1),), letter, seals)

    def test_a_list_of_seals_is_neither_changed_nor_kept(self):
        notary = Notary()
        letter = ("stop", "west", 0, ())
        seals = [notary.seal("b", letter), notary.seal("a", letter), 0]
        before = list(seals)
        self.assertEqual(notary.weight((("a", 2), ("b", 3)), letter, seals), 5)
        self.assertEqual(seals, before)
        seals.clear()
        self.assertEqual(notary.weight((("a", 2), ("b", 3)), letter, [0]), 3)


if __name__ == "__main__":
    unittest.main()
