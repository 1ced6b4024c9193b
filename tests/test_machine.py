"""Points 33 and 35: machines that carry out steps, stop and lose entries."""

import random
import unittest

from tests.bench import inside
from vaultbridge.errors import AlreadyApproved
from vaultbridge.guard import approve
from vaultbridge.letters import is_letter
from vaultbridge.machine import Machine
from vaultbridge.notary import Notary

SETS = [(("g1", 1), ("g2", 2)), (("g2", 2), ("g1", 1)), (("g1", 1),), (("h1", 9), ("g1", 1), ("g3", 2))]
TRANSFER = ("gold", 2, 0, "ann", "ben", 9)
LETTERS = [("deliver", "west", 0, TRANSFER), ("deliver", "west", 1, TRANSFER), ("return", "east", 0, TRANSFER),
           ("bundle", "west", 0, (TRANSFER, TRANSFER)), ("cancel", "west", 1, TRANSFER), ("stop", "east", 0, ())]


class Told:
    """A second telling of point 33: an entry is a pair of the entry and whether it lasts."""

    def __init__(self):
        self.entries = []

    def carry_out(self, steps, count):
        letters = []
        for step in steps:
            if count > 0:
                count -= 1
                if step[0] == "write":
                    self.entries.append((step[1], False))
                if step[0] == "flush":
                    self.entries = [(entry, True) for entry, _ in self.entries]
                if step[0] == "seal":
                    letters.append(step[1])
        return letters

    def crash(self, lost):
        while lost > 0 and self.entries and not self.entries[-1][1]:
            self.entries.pop()
            lost -= 1

    def journal(self):
        return [entry for entry, _ in self.entries]


def drawn_steps(source):
    steps = []
    for _ in range(source.randint(0, 6)):
        letter = source.choice(LETTERS)
        steps.append(source.choice([("seal", letter), ("seal", letter), ("write", ("sealed", letter)),
                                    ("write", ("approved", source.randint(1, 3), source.choice(SETS))), ("flush",)]))
    return steps


class MachineTest(unittest.TestCase):

    def check_carry_out(self, machine, notary, told, steps, count):
        before = list(steps)
        seals = machine.carry_out(steps, count)
        self.assertEqual([notary.shown(number) for number in seals],
                         [("g1", letter) for letter in told.carry_out(steps, count)])
        self.assertEqual(steps, before)
        seals.append("spoilt")

    def test_drawn_steps(self):
        for seed in range(60):
            source = random.Random(seed)
            notary, told = Notary(), Told()
            notary.seal("g2", LETTERS[1])
            machine = Machine("g1", notary)
            self.assertEqual(machine.journal(), [])
            for _ in range(30):
                if source.random() < 0.7:
                    self.check_carry_out(machine, notary, told, drawn_steps(source), source.randint(0, 8))
                else:
                    lost = source.choice([0, 1, 2, 5, 999])
                    self.assertIsNone(machine.crash(lost))
                    told.crash(lost)
                self.assertEqual(machine.journal(), told.journal())
                machine.journal().append("spoilt")
                self.assertEqual(machine.journal(), told.journal())

    def test_seals_by_hand(self):
        notary = Notary()
        notary.seal("g2", LETTERS[0])
        machine = Machine("g1", notary)
        steps = [("seal", LETTERS[0]), ("seal", LETTERS[1]), ("seal", LETTERS[0])]
        self.assertEqual(machine.carry_out(steps, 0), [])
        self.assertEqual(notary.count(), 1)
        self.assertEqual(machine.carry_out(steps, 2), [1, 2])
        self.assertEqual(machine.carry_out(steps, 3), [1, 2, 1])
        self.assertEqual(machine.carry_out(steps, 99), [1, 2, 1])
        self.assertEqual((notary.count(), notary.shown(2)), (3, ("g1", LETTERS[1])))
        self.assertEqual(machine.journal(), [])

    def test_a_crash_drops_nothing_that_was_flushed(self):
        machine = Machine("g1", Notary())
        steps = [("write", ("sealed", letter)) for letter in LETTERS]
        machine.carry_out(steps[:2] + [("flush",)] + steps[2:], 99)
        machine.crash(0)
        self.assertEqual(len(machine.journal()), 6)
        machine.crash(1)
        self.assertEqual(machine.journal(), [("sealed", letter) for letter in LETTERS[:5]])
        machine.crash(99)
        self.assertEqual(machine.journal(), [("sealed", letter) for letter in LETTERS[:2]])
        machine.carry_out(steps[5:], 1)
        self.assertEqual(machine.journal()[-1], ("sealed", LETTERS[5]))
        machine.crash(1)
        self.assertEqual(len(machine.journal()), 2)

    def test_what_was_left_by_a_crash_may_be_lost_later(self):
        machine = Machine("g1", Notary())
        machine.carry_out([("write", ("sealed", letter)) for letter in LETTERS], 3)
        machine.crash(1)
        machine.crash(1)
        self.assertEqual(machine.journal(), [("sealed", LETTERS[0])])

    def test_the_list_of_the_steps_is_not_kept(self):
        machine, steps = Machine("g1", Notary()), [("write", ("sealed", LETTERS[0]))]
        machine.carry_out(steps, 1)
        steps.clear()
        self.assertEqual(machine.journal(), [("sealed", LETTERS[0])])

    def test_a_transfer_that_gives_no_letter_holds_nothing_up(self):
        notary = Notary()
        machine = Machine("g1", notary)
        malformed = ("deliver", "west", 0, ("gold", 2, 0, "ann", "b" * 21, 9))
        self.assertFalse(is_letter(malformed))
        steps = [("seal", malformed), ("write", ("sealed", malformed)), ("seal", LETTERS[0]), ("flush",)]
        self.assertEqual(machine.carry_out(steps, 4), [0])
        self.assertEqual((notary.count(), notary.shown(0)), (1, ("g1", LETTERS[0])))
        self.assertEqual(machine.journal(), [("sealed", malformed)])


class ApprovingTest(unittest.TestCase):
    """A guard that is told again and again to approve one of several sets, and that stops at any step."""

    def try_to_approve(self, machine, number, guards):
        """The steps, or None if another set was approved."""
        before = machine.journal()
        approved = [entry[2] for entry in before if entry[:2] == ("approved", number)]
        if approved and approved != [guards]:
            with self.assertRaises(AlreadyApproved):
                approve(before, number, guards)
            return None
        steps = approve(before, number, guards)
        rest = [("flush",), ("seal", ("rotate", "both", number, guards))]
        self.assertEqual(steps, rest if approved else [("write", ("approved", number, guards))] + rest)
        self.assertEqual(before, machine.journal())
        return steps

    def check_seals(self, notary, journal):
        """No two sets are sealed for one epoch, and each that is sealed is noted."""
        sealed = [notary.shown(number)[1] for number in range(notary.count())]
        self.assertEqual(len({letter[:3] for letter in sealed}), len(sealed))
        for letter in sealed:
            self.assertIn(("approved", letter[2], letter[3]), journal)

    def test_no_two_sets_for_one_epoch(self):
        refused = changed = 0
        for seed in range(150):
            source = random.Random(seed)
            notary = Notary()
            machine = Machine("g1", notary)
            for _ in range(25):
                steps = self.try_to_approve(machine, source.randint(1, 3), source.choice(SETS))
                refused += steps is None
                machine.carry_out(steps or [], source.randint(0, 3))
                if source.random() < 0.6:
                    before = machine.journal()
                    machine.crash(source.randint(0, 2))
                    changed += before != machine.journal()
                self.check_seals(notary, machine.journal())
        self.assertGreater(min(refused, changed), 100)

    def test_seals_are_made_after_the_entry_lasts(self):
        for count in range(4):
            notary = Notary()
            machine = Machine("g1", notary)
            machine.carry_out(approve([], 1, SETS[0]), count)
            machine.crash(9)
            self.assertEqual(machine.journal(), [("approved", 1, SETS[0])] if count >= 2 else [])
            self.assertEqual(notary.count(), 1 if count == 3 else 0)
            before = inside(machine)
            if count >= 2:
                with self.assertRaises(AlreadyApproved):
                    approve(machine.journal(), 1, SETS[1])
            else:
                self.assertEqual(len(approve(machine.journal(), 1, SETS[1])), 3)
            self.assertEqual(inside(machine), before)


if __name__ == "__main__":
    unittest.main()
