"""Points 32, 34, 36, 37: the duties of a guard and the steps that it gives to its machine."""

import unittest

from tests.bench import inside, made_config, watching
from tests.test_drawn import SETS, SIDES, grown
from vaultbridge.chain import Chain
from vaultbridge.errors import AlreadyApproved, InvalidArgument, UnknownTransfer
from vaultbridge.guard import approve, bundle_work, cancel, duties, work
from vaultbridge.notary import Notary

SET = (("g1", 1), ("g2", 2))
OTHER_SET = (("g2", 2), ("g1", 1))


def final_events(view, chain):
    return [event for number in chain.line(view.final()) for event in chain.events(number)]


def told_duties(views, chains):
    """A second telling of point 32."""
    found = []
    for side, other in (SIDES, SIDES[::-1]):
        for event in final_events(views[side], chains[side]):
            if event[0] in ("sent", "refused"):
                found.append(("deliver", side) + event[1:] if event[0] == "sent" else ("return", other) + event[1:])
    return found


def told_bundles(views, chains, many):
    """A second telling of point 37."""
    found = []
    for side in SIDES:
        sent = {event[1]: event[2] for event in final_events(views[side], chains[side]) if event[0] == "sent"}
        first = 0
        while all(number in sent for number in range(first, first + many)):
            found.append(("bundle", side, first, tuple(sent[number] for number in range(first, first + many))))
            first += many
    return found


def told_steps(letters, journal):
    """A second telling of point 34."""
    steps = []
    for letter in letters:
        if ("sealed", letter) not in journal:
            steps += [("seal", letter), ("write", ("sealed", letter))]
    return steps + [("flush",)] if steps else []


def drawn_journal(source, letters):
    """Some of the letters, and entries that say nothing about them."""
    journal = [("sealed", letter) for letter in letters if source.random() < 0.5]
    for letter in letters:
        if source.random() < 0.2:
            journal.append(("sealed", source.choice([("cancel",) + letter[1:], letter[:2] + (99,) + letter[3:]])))
    journal += [("approved", epoch, source.choice(SETS)) for epoch in range(1, source.randint(1, 3))]
    source.shuffle(journal)
    return journal


def drawn_views(bridge):
    """Views of both ledgers that were shown all blocks or some of them, in a drawn order."""
    found = {}
    for side in SIDES:
        numbers = bridge.chains[side].numbers()
        many = len(numbers) if bridge.draw(True, False) else bridge.source.randint(0, len(numbers))
        found[side] = watching(bridge.chains[side], bridge.source.sample(numbers, many))
    return found


def drawn_bridges():
    for seed in range(400, 425):
        bridge = grown(seed, 60 + seed % 25 * 2)
        for _ in range(3):
            yield bridge, drawn_views(bridge)


class DrawnGuardTest(unittest.TestCase):

    @classmethod
    def setUpClass(cls):
        cls.bridges = list(drawn_bridges())

    def check_steps(self, steps_for, letters, source):
        """Compares the steps for drawn journals, which stay as they are."""
        for journal in ([], drawn_journal(source, letters), [("sealed", letter) for letter in letters]):
            before = list(journal)
            self.assertEqual(steps_for(journal), told_steps(letters, journal))
            steps_for(journal).clear()
            self.assertEqual(steps_for(journal), told_steps(letters, journal))
            self.assertEqual(journal, before)

    def test_duties_and_work(self):
        kinds = set()
        for bridge, views in self.bridges:
            west, east = views["west"], views["east"]
            before = inside([west, east, bridge.chains])
            letters = told_duties(views, bridge.chains)
            self.assertEqual(duties(west, east), letters)
            duties(west, east).clear()
            self.assertEqual(duties(west, east), letters)
            self.check_steps(lambda journal: work(west, east, journal), letters, bridge.source)
            self.assertEqual(inside([west, east, bridge.chains]), before)
            kinds.update(letter[:2] for letter in letters)
        self.assertEqual(kinds, {(kind, side) for kind in ("deliver", "return") for side in SIDES})

    def test_bundles(self):
        counts = set()
        for bridge, views in self.bridges:
            for many in range(1, 9):
                config = made_config(bundle=many)
                letters = told_bundles(views, bridge.chains, many)
                self.check_steps(lambda journal: bundle_work(config, views["west"], views["east"], journal),
                                 letters, bridge.source)
                counts.update((many, letter[1]) for letter in letters)
        self.assertTrue({(many, side) for many in range(1, 4) for side in SIDES} <= counts)

    def test_cancel(self):
        counts = {"done": 0, "unknown": 0}
        for bridge, views in self.bridges:
            for side, other in (SIDES, SIDES[::-1]):
                waiting = {event[1]: event[2] for event in final_events(views[other], bridge.chains[other])
                           if event[0] == "waiting"}
                for number in range(-1, 14):
                    counts["done" if number in waiting else "unknown"] += 1
                    self.check_cancel(views, side, number, waiting)
        self.assertGreater(min(counts.values()), 20)

    def check_cancel(self, views, side, number, waiting):
        if number in waiting:
            steps = [("seal", ("cancel", side, number, waiting[number]))]
            self.assertEqual(cancel(views["west"], views["east"], side, number), steps)
        else:
            with self.assertRaises(UnknownTransfer) as held:
                cancel(views["west"], views["east"], side, number)
            self.assertIs(type(held.exception), UnknownTransfer)


class Ledgers:
    """Two ledgers of single lines, and views of them that were shown everything."""

    def __init__(self, **changes):
        self.config = made_config(depth=1, **changes)
        self.notary = Notary()
        self.chains = {side: Chain(side, self.config, self.notary) for side in SIDES}

    def lay(self, side, *orders):
        chain = self.chains[side]
        chain.add(chain.best() + 1, chain.best(), orders)

    def bring(self, side, letter):
        seals = tuple(self.notary.seal(name, letter) for name in ("g1", "g2", "g3"))
        self.lay(side, ("take", "rel", letter, seals))

    def views(self):
        return [watching(self.chains[side], self.chains[side].numbers()) for side in SIDES]


def sending(units, deadline=99, receiver="ben"):
    return ("send", "ann", receiver, "gold", 3 * units, 0, deadline)


def sent(units, deadline=99, receiver="ben"):
    return ("gold", units, 0, "ann", receiver, deadline)


class DutiesTest(unittest.TestCase):

    def test_only_what_is_final_counts(self):
        ledgers = Ledgers()
        ledgers.lay("west", sending(2))
        self.assertEqual(duties(*ledgers.views()), [])
        self.assertEqual(work(*ledgers.views(), []), [])
        ledgers.lay("west", sending(3))
        letter = ("deliver", "west", 0, sent(2))
        self.assertEqual(duties(*ledgers.views()), [letter])
        self.assertEqual(work(*ledgers.views(), []), [("seal", letter), ("write", ("sealed", letter)), ("flush",)])
        self.assertEqual(work(*ledgers.views(), [("sealed", letter)]), [])

    def test_the_order_of_the_events_and_the_west_first(self):
        ledgers = Ledgers()
        ledgers.lay("east", ("send", "ann", "ben", "salt", 2, 0, 0), ("send", "ann", "cat", "salt", 4, 1, 9))
        ledgers.lay("west", sending(2, 0), sending(1, 5, "cat"))
        ledgers.bring("west", ("deliver", "east", 0, ("salt", 1, 0, "ann", "ben", 0)))
        ledgers.lay("west", sending(3))
        ledgers.bring("east", ("deliver", "west", 0, sent(2, 0)))
        for side in SIDES:
            ledgers.lay(side)
        self.assertEqual(duties(*ledgers.views()), [
            ("deliver", "west", 0, sent(2, 0)), ("deliver", "west", 1, sent(1, 5, "cat")),
            ("return", "east", 0, ("salt", 1, 0, "ann", "ben", 0)), ("deliver", "west", 2, sent(3)),
            ("deliver", "east", 0, ("salt", 1, 0, "ann", "ben", 0)),
            ("deliver", "east", 1, ("salt", 2, 1, "ann", "cat", 9)), ("return", "west", 0, sent(2, 0))])

    def test_other_letters_and_entries_do_not_count_as_sealed(self):
        ledgers = Ledgers()
        ledgers.lay("west", sending(2))
        ledgers.lay("west")
        letter = ("deliver", "west", 0, sent(2))
        journal = [("sealed", ("cancel",) + letter[1:]), ("sealed", letter[:3] + (sent(3),)),
                   ("sealed", ("bundle", "west", 0, (sent(2),))), ("approved", 1, SET), ("written", letter)]
        self.assertEqual(work(*ledgers.views(), journal),
                         [("seal", letter), ("write", ("sealed", letter)), ("flush",)])


class BundleTest(unittest.TestCase):

    def test_complete_groups_alone(self):
        ledgers = Ledgers(bundle=2)
        for units in (1, 2, 3):
            ledgers.lay("west", sending(units))
        ledgers.lay("west")
        first = ("bundle", "west", 0, (sent(1), sent(2)))
        steps = [("seal", first), ("write", ("sealed", first)), ("flush",)]
        self.assertEqual(bundle_work(ledgers.config, *ledgers.views(), []), steps)
        single = [("sealed", ("deliver", "west", 0, sent(1))), ("sealed", ("deliver", "west", 1, sent(2)))]
        self.assertEqual(bundle_work(ledgers.config, *ledgers.views(), single), steps)
        ledgers.lay("west", sending(4))
        ledgers.lay("west")
        second = ("bundle", "west", 2, (sent(3), sent(4)))
        self.assertEqual(bundle_work(ledgers.config, *ledgers.views(), [("sealed", first)]),
                         [("seal", second), ("write", ("sealed", second)), ("flush",)])
        self.assertEqual(bundle_work(ledgers.config, *ledgers.views(), [("sealed", first), ("sealed", second)]), [])

    def test_one_to_eight_transfers_in_a_bundle(self):
        ledgers = Ledgers(balances=[("ann", "gold", 999)])
        for number in range(17):
            ledgers.lay("west", sending(1 + number))
        ledgers.lay("west")
        transfers = tuple(sent(1 + number) for number in range(17))
        for many in range(1, 9):
            letters = [("bundle", "west", many * group, transfers[many * group:many * (group + 1)])
                       for group in range(17 // many)]
            self.assertEqual(bundle_work(made_config(bundle=many), *ledgers.views(), []), told_steps(letters, []))
            journal = [("sealed", letter) for letter in letters[1:]]
            self.assertEqual(bundle_work(made_config(bundle=many), *ledgers.views(), journal),
                             told_steps(letters[:1], []))

    def test_the_configuration_that_is_handed_in_counts(self):
        ledgers = Ledgers(bundle=2)
        ledgers.lay("west", sending(1), sending(2))
        ledgers.lay("west")
        self.assertEqual(bundle_work(made_config(bundle=3), *ledgers.views(), []), [])
        self.assertEqual(len(bundle_work(made_config(bundle=1), *ledgers.views(), [])), 5)


class CancelTest(unittest.TestCase):

    def waiting(self):
        ledgers = Ledgers(delay=1)
        ledgers.lay("west", sending(1), sending(9))
        ledgers.bring("east", ("deliver", "west", 1, sent(9)))
        return ledgers

    def test_a_final_event_is_needed(self):
        ledgers = self.waiting()
        with self.assertRaises(UnknownTransfer):
            cancel(*ledgers.views(), "west", 1)
        ledgers.lay("east")
        steps = [("seal", ("cancel", "west", 1, sent(9)))]
        self.assertEqual(cancel(*ledgers.views(), "west", 1), steps)
        for side, number in (("west", 0), ("west", 2), ("west", -1), ("east", 1)):
            with self.assertRaises(UnknownTransfer):
                cancel(*ledgers.views(), side, number)

    def test_also_after_it_was_delivered_or_refused(self):
        delivered, refused = self.waiting(), self.waiting()
        delivered.lay("east", ("claim", "rel", 1))
        refused.bring("east", ("cancel", "west", 1, sent(9)))
        for ledgers, word in ((delivered, "delivered"), (refused, "refused")):
            ledgers.lay("east")
            self.assertEqual(ledgers.views()[1].final_events()[-1][0], word)
            self.assertEqual(cancel(*ledgers.views(), "west", 1), [("seal", ("cancel", "west", 1, sent(9)))])


class ApproveTest(unittest.TestCase):

    def test_a_new_epoch(self):
        journal = [("approved", 2, OTHER_SET), ("sealed", ("rotate", "both", 1, OTHER_SET))]
        before = list(journal)
        self.assertEqual(approve(journal, 1, SET), [
            ("write", ("approved", 1, SET)), ("flush",), ("seal", ("rotate", "both", 1, SET))])
        self.assertEqual(journal, before)

    def test_the_same_set_again(self):
        for journal in ([("approved", 1, SET)], [("approved", 2, OTHER_SET), ("approved", 1, SET)]):
            self.assertEqual(approve(journal, 1, SET), [("flush",), ("seal", ("rotate", "both", 1, SET))])

    def test_another_set(self):
        for other in (OTHER_SET, SET[:1], (("g1", 1), ("g2", 3))):
            with self.assertRaises(AlreadyApproved) as held:
                approve([("approved", 3, other), ("approved", 1, other)], 1, SET)
            self.assertIs(type(held.exception), AlreadyApproved)

    def test_wrong_arguments(self):
        journal = [("approved", 0, OTHER_SET), ("approved", 1, OTHER_SET)]
        for number, guards in ((0, SET), (-1, SET), (1, ()), (1, (("g1", 0),)), (1, SET + SET[:1]), (1, ("g1",)),
                               (1, (("", 1),)), (1, (("g" * 21, 1),)), (0, ())):
            with self.assertRaises(InvalidArgument) as held:
                approve(journal, number, guards)
            self.assertIs(type(held.exception), InvalidArgument)
        self.assertEqual(len(journal), 2)


if __name__ == "__main__":
    unittest.main()
