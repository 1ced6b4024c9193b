"""Points 21 to 25 and 30: letters, and what they do."""

import random
import unittest

from tests.bench import GUARDS, THREE, Bench, shown
from vaultbridge.errors import (
    AlreadyTaken, BridgeError, InvalidOrder, LimitReached, NotEnoughBalance, NotEnoughWeight, Stopped, UnknownToken,
    UnknownTransfer, WrongNumber, WrongSide)
from vaultbridge.gateway import outcome

SMALL = ("gold", 5, 2, "ann", "ben", 9)
LARGE = ("gold", 8, 2, "ann", "ben", 9)
SALT = ("salt", 5, 2, "ann", "ben", 9)
IRON = ("iron", 5, 2, "ann", "ben", 9)
LATE = ("gold", 5, 2, "ann", "ben", 0)


class LetterTest(Bench):

    def letters(self, side):
        """A letter of each kind that is right for a gateway of the side."""
        other = "west" if side == "east" else "east"
        return [("deliver", other, 0, SMALL), ("bundle", other, 0, (SMALL,)), ("cancel", other, 0, SMALL),
                ("return", side, 0, SMALL), ("rotate", "both", 1, GUARDS), ("stop", side, 0, ()),
                ("resume", side, 0, ())]

    def test_letters_that_are_not_well_formed(self):
        seal = self.seals(("stop", "west", 0, ()), ("g1",))
        for stopped in (False, True):
            if stopped:
                self.take(("stop", "east", 0, ()))
            for letter in (("deliver", "west", 0, ()), ("deliver", "both", 0, SMALL), ("rotate", "both", 0, GUARDS),
                           ("bundle", "east", 0, (SMALL,) * 9), ("stop", "west", -1, ()), (), "", None, 7, ("stop",)):
                self.fail_with(InvalidOrder, ("take", "rel", letter, ()))
                self.fail_with(InvalidOrder, ("take", "rel", letter, seal))

    def test_wrong_sides(self):
        for side, other in (("west", "east"), ("east", "west")):
            self.begin(side)
            for letter in self.letters(other):
                if letter[0] != "rotate":
                    self.fail_to_take(WrongSide, letter)
                    self.fail_to_take(WrongSide, letter, ())
            for letter in self.letters(side):
                self.fail_to_take(WrongNumber if letter[0] == "resume" else NotEnoughWeight, letter, ())

    def test_a_stopped_gateway(self):
        for side, other in (("west", "east"), ("east", "west")):
            self.begin(side)
            self.take(("stop", side, 0, ()))
            for letter in self.letters(side) + self.letters(other):
                if letter[0] in ("deliver", "bundle", "return"):
                    self.fail_to_take(Stopped, letter, ())
                    self.fail_to_take(Stopped, letter)
            self.fail_to_take(WrongSide, ("cancel", side, 0, SMALL))
            self.fail_to_take(UnknownTransfer, ("cancel", other, 0, SMALL))
            self.fail_to_take(WrongNumber, ("stop", side, 0, ()))
            self.fail_to_take(WrongNumber, ("stop", side, 1, ()))
            self.take(("rotate", "both", 1, GUARDS))
            self.take(("resume", side, 0, ()))

    def test_what_a_stop_lets_through(self):
        self.take(("deliver", "west", 0, LARGE))
        self.take(("stop", "east", 0, ()))
        self.assertEqual(self.take(("cancel", "west", 0, LARGE)), [("refused", 0, LARGE)])


class WeightTest(Bench):

    def setUp(self):
        self.begin("east", guards=(("g1", 5), ("g2", 3), ("g3", 2), ("g4", 2)))
        # a total of 12: the threshold is 9 and the minority 4

    def all_letters(self):
        return [("deliver", "west", 0, SMALL), ("bundle", "west", 0, (SMALL,)), ("cancel", "west", 0, SMALL),
                ("return", "east", 0, SMALL), ("rotate", "both", 1, GUARDS)]

    def test_at_and_just_below_the_threshold(self):
        for names in ((), ("g1", "g2"), ("g2", "g3", "g4"), ("g1", "g1", "g2"), ("g1", "g2", "h1", "out")):
            for letter in self.all_letters():
                self.fail_to_take(NotEnoughWeight, letter, names)
        for names in (("g1", "g3", "g4"), ("g1", "g2", "g4"), ("h1", "g4", "g1", "g3", "g1")):
            self.setUp()
            self.take(("deliver", "west", 0, SMALL), names)

    def test_seals_of_other_letters_do_not_count(self):
        letter = ("deliver", "west", 0, SMALL)
        near = [("deliver", "west", 1, SMALL), ("deliver", "west", 0, LARGE), ("cancel", "west", 0, SMALL),
                ("deliver", "east", 0, SMALL), ("bundle", "west", 0, (SMALL,))]
        seals = self.seals(letter, ("g1", "g2"))
        for other in near:
            seals += self.seals(other, ("g1", "g2", "g3", "g4"))
        self.fail_with(NotEnoughWeight, ("take", "rel", letter, seals))
        seals += self.seals(letter, ("g3",))
        self.fail_with(NotEnoughWeight, ("take", "rel", near[1], self.seals(letter)))
        self.assertEqual(self.do(("take", "rel", letter, seals + seals)), [("delivered", 0, SMALL)])

    def test_the_set_in_use_and_the_one_before(self):
        self.take(("rotate", "both", 1, (("h1", 2), ("h2", 1))), ("g1", "g2", "g3"))
        self.take(("deliver", "west", 0, SMALL), ("g1", "g2", "g3"))
        self.fail_to_take(NotEnoughWeight, ("deliver", "west", 1, SMALL), ("h1",))
        self.fail_to_take(NotEnoughWeight, ("deliver", "west", 1, SMALL), ("h1", "g1", "g2"))
        self.take(("deliver", "west", 1, SMALL), ("h1", "h2"))
        self.take(("rotate", "both", 2, (("k1", 1),)), ("h1", "h2"))
        self.fail_to_take(NotEnoughWeight, ("deliver", "west", 2, SMALL), ("g1", "g2", "g3", "g4"))
        self.take(("deliver", "west", 2, SMALL), ("h1", "h2"))
        self.take(("deliver", "west", 3, ("gold", 1, 0, "a", "b", 9)), ("k1",))

    def test_the_set_before_counts_for_all_backed_letters(self):
        self.do(("send", "ann", "out", "salt", 2, 0, 9))
        sent = self.state.transfers()[0]
        self.take(("deliver", "west", 0, LARGE), ("g1", "g2", "g3"))
        self.take(("rotate", "both", 1, (("h1", 1),)), ("g1", "g2", "g3"))
        for letter in (("bundle", "west", 1, (SMALL,)), ("cancel", "west", 0, LARGE), ("return", "east", 0, sent)):
            self.fail_to_take(NotEnoughWeight, letter, ("g1", "g2"))
            self.take(letter, ("g1", "g2", "g3"))

    def test_rotate_and_resume_count_the_current_set_alone(self):
        self.take(("rotate", "both", 1, (("h1", 2), ("h2", 1), ("h3", 1))), ("g1", "g2", "g3"))
        self.fail_to_take(NotEnoughWeight, ("rotate", "both", 2, GUARDS), ("g1", "g2", "g3", "g4"))
        self.fail_to_take(NotEnoughWeight, ("rotate", "both", 2, GUARDS), ("h2", "h3"))
        self.fail_to_take(NotEnoughWeight, ("stop", "east", 0, ()), ("g1", "g2", "g3", "g4"))
        self.fail_to_take(NotEnoughWeight, ("stop", "east", 0, ()), ("h2",))
        self.take(("stop", "east", 0, ()), ("h2", "h3"))
        self.fail_to_take(NotEnoughWeight, ("resume", "east", 0, ()), ("g1", "g2", "g3", "g4"))
        self.fail_to_take(NotEnoughWeight, ("resume", "east", 0, ()), ("h2", "h3"))
        self.take(("resume", "east", 0, ()), ("h1", "h2"))
        self.take(("rotate", "both", 2, GUARDS), ("h1", "h3"))

    def test_at_and_just_below_the_minority(self):
        for names in ((), ("g2",), ("g3", "g3", "h1")):
            self.fail_to_take(NotEnoughWeight, ("stop", "east", 0, ()), names)
        for names in (("g3", "g4"), ("g1",)):
            self.setUp()
            self.assertEqual(self.take(("stop", "east", 0, ()), names), [("stopped", 0, ())])


class DeliverTest(Bench):

    def test_on_the_other_side_units_are_minted(self):
        self.assertEqual(self.take(("deliver", "west", 3, SMALL)), [("delivered", 3, SMALL)])
        self.has(ben=3, rel=2, ann=0)
        self.assertEqual((self.state.circulating("gold"), self.state.vault("gold")), (5, 0))
        self.assertEqual((self.state.taken(3), self.state.taken(0), self.state.waiting()), ("delivered", None, []))

    def test_on_the_home_side_units_come_from_the_vault(self):
        self.begin("west")
        self.do(("send", "ann", "out", "gold", 17, 0, 9))
        self.assertEqual(self.take(("deliver", "east", 0, SMALL)), [("delivered", 0, SMALL)])
        self.has(ann=45, ben=10 + 9, rel=6)
        self.assertEqual(self.state.vault("gold"), 0)

    def test_fees_at_the_edges(self):
        self.take(("deliver", "west", 0, ("gold", 5, 0, "ann", "ben", 9)))
        self.has(ben=5, rel=0)
        self.take(("deliver", "west", 1, ("gold", 5, 5, "ann", "ben", 9)))
        self.has(ben=5, rel=5)
        self.take(("deliver", "west", 2, ("gold", 5, 2, "ann", "rel", 9)))
        self.has(rel=10)

    def test_a_vault_that_has_less(self):
        self.begin("west")
        self.do(("send", "ann", "out", "gold", 12, 0, 9))
        self.fail_to_take(NotEnoughBalance, ("deliver", "east", 0, SMALL))
        self.fail_to_take(NotEnoughBalance, ("deliver", "east", 0, ("gold", 5, 5, "ann", "ben", 9)))
        self.take(("deliver", "east", 0, ("gold", 4, 2, "ann", "ben", 9)))
        self.assertEqual(self.state.vault("gold"), 0)
        self.fail_to_take(NotEnoughBalance, ("deliver", "east", 1, ("gold", 1, 0, "ann", "ben", 9)))

    def test_numbers_are_taken_once(self):
        self.take(("deliver", "west", 0, SMALL))
        self.take(("deliver", "west", 1, LARGE))
        self.rise()
        self.take(("deliver", "west", 2, LATE))
        self.assertEqual([self.state.taken(n) for n in range(4)], ["delivered", "waiting", "refused", None])
        for number in (0, 1, 2):
            for transfer in (SMALL, LARGE, LATE, SALT):
                self.fail_to_take(AlreadyTaken, ("deliver", "west", number, transfer))
        self.take(("deliver", "west", 3, SMALL))

    def test_deadlines(self):
        for deadline in (0, 1, 4):
            self.begin("east")
            transfer = ("gold", 5, 2, "ann", "ben", deadline)
            self.rise(deadline)
            self.assertEqual(self.take(("deliver", "west", 0, transfer)), [("delivered", 0, transfer)])
            self.rise()
            self.assertEqual(self.take(("deliver", "west", 1, transfer)), [("refused", 1, transfer)])
            self.assertEqual((self.state.taken(1), self.state.circulating("gold")), ("refused", 5))

    def test_a_refusal_changes_nothing_else(self):
        self.rise()
        before = shown(self.config, self.state)
        for number, transfer in ((7, LATE), (8, ("gold", 900, 0, "ann", "ben", 0)), (9, ("salt", 900, 0, "a", "b", 0))):
            self.assertEqual(self.take(("deliver", "west", number, transfer)), [("refused", number, transfer)])
        after = shown(self.config, self.state)
        self.assertEqual([self.state.taken(n) for n in (6, 7, 8, 9)], [None, "refused", "refused", "refused"])
        del before["taken"], after["taken"]
        self.assertEqual(after, before)

    def test_large_transfers_wait(self):
        before = shown(self.config, self.state)
        for number, units in ((0, 8), (1, 9), (2, 900)):
            transfer = ("gold", units, 0, "ann", "ben", 9)
            self.assertEqual(self.take(("deliver", "west", number, transfer)), [("waiting", number, transfer)])
        after = shown(self.config, self.state)
        self.assertEqual((self.state.waiting(), self.state.taken(2)), ([0, 1, 2], "waiting"))
        for part in ("taken", "waiting"):
            del before[part], after[part]
        self.assertEqual(after, before)
        small = ("gold", 7, 0, "ann", "ben", 9)
        self.assertEqual(self.take(("deliver", "west", 3, small)), [("delivered", 3, small)])

    def test_the_order_of_the_errors(self):
        self.begin("west", tokens=[("gold", "west", 3, 4, 8), ("salt", "east", 2, 20, 8)])
        self.take(("deliver", "east", 0, ("salt", 1, 0, "a", "b", 9)))
        self.fail_to_take(NotEnoughWeight, ("deliver", "east", 0, IRON), ("g1", "g2"))
        self.fail_to_take(UnknownToken, ("deliver", "east", 0, IRON))
        self.fail_to_take(AlreadyTaken, ("deliver", "east", 0, SMALL))
        self.fail_to_take(LimitReached, ("deliver", "east", 1, SMALL))
        self.fail_to_take(NotEnoughBalance, ("deliver", "east", 1, ("gold", 4, 0, "a", "b", 9)))
        self.rise()
        self.fail_to_take(AlreadyTaken, ("deliver", "east", 0, LATE))
        self.fail_to_take(UnknownToken, ("deliver", "east", 1, ("iron", 5, 0, "a", "b", 0)))
        self.take(("deliver", "east", 1, LATE))
        self.take(("deliver", "east", 2, LARGE))


class BundleTest(Bench):

    def test_transfers_are_taken_in_order(self):
        self.rise()
        small, late, large = ("gold", 2, 1, "a", "cat", 9), ("gold", 1, 0, "a", "b", 0), ("gold", 9, 0, "a", "b", 9)
        letter = ("bundle", "west", 4, (small, late, large, SMALL))
        self.assertEqual(self.take(letter), [("delivered", 4, small), ("refused", 5, late), ("waiting", 6, large),
                                             ("delivered", 7, SMALL)])
        self.has(cat=1, rel=1 + 2, ben=3)
        self.assertEqual([self.state.taken(n) for n in range(3, 9)],
                         [None, "delivered", "refused", "waiting", "delivered", None])

    def test_errors_are_left_out(self):
        self.take(("deliver", "west", 1, SMALL))
        letter = ("bundle", "west", 0, (IRON, SMALL, SMALL, ("gold", 7, 0, "a", "b", 9), ("gold", 7, 0, "a", "b", 9),
                                        ("gold", 3, 0, "a", "b", 9)))
        self.assertEqual([event[:2] for event in self.take(letter)],
                         [("delivered", 2), ("delivered", 3), ("delivered", 5)])
        self.assertEqual(self.state.circulating("gold"), 20)
        self.assertIsNone(self.state.taken(0))

    def test_if_all_raise_errors_the_first_one_is_raised(self):
        self.begin("west")
        self.take(("deliver", "east", 1, ("salt", 1, 0, "a", "b", 9)))
        bad = {UnknownToken: IRON, LimitReached: ("salt", 7, 0, "a", "b", 9), NotEnoughBalance: SMALL}
        self.take(("deliver", "east", 2, ("salt", 7, 0, "a", "b", 9)))
        self.take(("deliver", "east", 3, ("salt", 6, 0, "a", "b", 9)))
        self.fail_to_take(AlreadyTaken, ("bundle", "east", 1, (SALT, SALT, SALT, IRON)))
        self.fail_to_take(AlreadyTaken, ("bundle", "east", 3, (SALT, SMALL)))
        for error in bad:
            for others in ((), tuple(bad.values()), tuple(reversed(bad.values()))):
                self.fail_to_take(error, ("bundle", "east", 9, (bad[error],) + others))

    def test_seals_of_the_bundle_alone_count(self):
        letter = ("bundle", "west", 0, (SMALL,))
        self.fail_to_take(NotEnoughWeight, letter, ("g1", "g2"))
        self.fail_with(NotEnoughWeight, ("take", "rel", letter, self.seals(("deliver", "west", 0, SMALL))))
        self.fail_with(NotEnoughWeight, ("take", "rel", ("deliver", "west", 0, SMALL), self.seals(letter)))
        self.fail_to_take(NotEnoughWeight, ("bundle", "west", 0, (IRON,)), ())
        self.take(letter)
        self.fail_to_take(AlreadyTaken, letter)
        self.fail_to_take(AlreadyTaken, ("deliver", "west", 0, SMALL))

    def test_the_limit_within_a_bundle(self):
        seven, six, one = (("gold", units, 0, "a", "b", 9) for units in (7, 6, 1))
        events = self.take(("bundle", "west", 0, (seven, six, seven, one, seven)))
        self.assertEqual([event[:2] for event in events], [("delivered", 0), ("delivered", 1), ("delivered", 2)])
        self.fail_to_take(LimitReached, ("bundle", "west", 3, (one, seven)))

    def test_eight_transfers(self):
        one = ("gold", 1, 0, "a", "b", 9)
        self.assertEqual(len(self.take(("bundle", "west", 0, (one,) * 8))), 8)

    def as_delivers(self, letter):
        """What deliver letters for the transfers do, one after the other: the state, the events, the errors."""
        state, events, errors = self.state, [], []
        for index, transfer in enumerate(letter[3]):
            order = self.taking(("deliver", letter[1], letter[2] + index, transfer))
            try:
                state, told = outcome(self.config, self.notary, state, order)
                events.extend(told)
            except BridgeError as error:
                errors.append(type(error))
        return state, events, errors

    def check_bundle(self, letter):
        state, events, errors = self.as_delivers(letter)
        if events:
            self.assertEqual(self.take(letter), events)
            self.assertEqual(shown(self.config, self.state), shown(self.config, state))
        else:
            self.fail_to_take(errors[0], letter)
        return len(events), len(errors)

    def test_drawn_bundles_are_as_deliver_letters(self):
        source = random.Random(23)
        found = {}
        for side, other in (("west", "east"), ("east", "west")):
            for _ in range(60):
                self.begin(side)
                if side == "west":
                    self.do(("send", "ann", "out", "gold", source.randint(3, 60), 0, 9))
                for _ in range(8):
                    self.rise(source.randint(0, 1))
                    transfers = tuple(self.drawn_transfer(source) for _ in range(source.randint(1, 8)))
                    many, few = self.check_bundle(("bundle", other, source.randint(0, 20), transfers))
                    shape = (many > 0, few > 0)
                    found[shape] = found.get(shape, 0) + 1
        self.assertTrue(all(found.get(shape, 0) > 20 for shape in ((True, True), (True, False), (False, True))), found)

    def drawn_transfer(self, source):
        token = source.choice(["gold", "gold", "salt", "salt", "iron"])
        return (token, source.randint(1, 9), source.randint(0, 1), "ann", source.choice(["ben", "cat", "rel"]),
                source.randint(0, 9))


class CancelTest(Bench):

    def test_a_transfer_that_waits_is_refused(self):
        self.take(("deliver", "west", 0, LARGE))
        self.take(("deliver", "west", 1, LARGE))
        self.assertEqual(self.take(("cancel", "west", 0, LARGE)), [("refused", 0, LARGE)])
        self.assertEqual((self.state.taken(0), self.state.taken(1), self.state.waiting()), ("refused", "waiting", [1]))
        self.fail_to_take(UnknownTransfer, ("cancel", "west", 0, LARGE))
        self.fail_to_take(AlreadyTaken, ("deliver", "west", 0, LARGE))
        self.rise(2)
        self.fail_with(UnknownTransfer, ("claim", "rel", 0))

    def test_what_does_not_wait(self):
        self.take(("deliver", "west", 0, SMALL))
        self.rise()
        self.take(("deliver", "west", 1, LATE))
        self.take(("deliver", "west", 2, LARGE))
        for number, transfer in ((0, SMALL), (1, LATE), (3, LARGE), (2, SMALL), (2, LARGE[:5] + (8,))):
            self.fail_to_take(NotEnoughWeight, ("cancel", "west", number, transfer), ("g1", "g2"))
            self.fail_to_take(UnknownTransfer, ("cancel", "west", number, transfer))
        self.fail_to_take(NotEnoughWeight, ("cancel", "west", 2, LARGE), ("g1", "g2"))
        self.take(("cancel", "west", 2, LARGE))

    def test_at_any_height(self):
        for height in (0, 1, 2, 30):
            self.begin("east")
            self.take(("deliver", "west", 0, LARGE))
            self.rise(height)
            self.take(("cancel", "west", 0, LARGE))


class ReturnTest(Bench):

    def test_from_the_vault_on_the_home_side(self):
        self.begin("west")
        self.do(("send", "ann", "out", "gold", 17, 3, 9))
        transfer = ("gold", 5, 3, "ann", "out", 9)
        self.assertEqual(self.take(("return", "west", 0, transfer)), [("returned", 0, transfer)])
        self.has(ann=60, out=9, rel=0)
        self.assertEqual(self.state.vault("gold"), 0)
        self.assertIs(self.state.is_returned(0), True)
        self.assertEqual((self.state.transfers(), self.state.taken(0)), ([transfer], None))

    def test_minted_on_the_other_side(self):
        self.take(("deliver", "west", 0, ("gold", 6, 0, "out", "ann", 9)))
        self.do(("send", "ann", "out", "gold", 6, 2, 9))
        transfer = ("gold", 6, 2, "ann", "out", 9)
        self.has(ann=0)
        self.assertEqual(self.take(("return", "east", 0, transfer)), [("returned", 0, transfer)])
        self.has(ann=6, rel=0)
        self.assertEqual(self.state.circulating("gold"), 6)

    def test_transfers_are_given_back_once(self):
        self.begin("west")
        for _ in range(2):
            self.do(("send", "ann", "out", "gold", 6, 0, 9))
        transfer = ("gold", 2, 0, "ann", "out", 9)
        self.take(("return", "west", 1, transfer))
        self.assertEqual([self.state.is_returned(n) for n in (-1, 0, 1, 2)], [False, False, True, False])
        self.fail_to_take(AlreadyTaken, ("return", "west", 1, transfer))
        self.take(("return", "west", 0, transfer))
        self.fail_to_take(AlreadyTaken, ("return", "west", 0, transfer))

    def test_unknown_transfers(self):
        self.begin("west")
        self.do(("send", "ann", "out", "gold", 6, 0, 9))
        transfer = ("gold", 2, 0, "ann", "out", 9)
        for number, wrong in ((1, transfer), (7, transfer), (0, SMALL), (0, transfer[:5] + (8,)), (0, IRON)):
            self.fail_to_take(UnknownTransfer, ("return", "west", number, wrong))

    def test_a_vault_that_has_less(self):
        self.begin("west")
        self.do(("send", "ann", "out", "gold", 6, 0, 9))
        transfer = ("gold", 2, 0, "ann", "out", 9)
        self.take(("deliver", "east", 0, ("gold", 1, 0, "out", "cat", 9)))
        self.fail_to_take(NotEnoughBalance, ("return", "west", 0, transfer))
        self.do(("send", "ben", "out", "gold", 3, 0, 9))
        self.take(("return", "west", 0, transfer))
        self.assertEqual(self.state.vault("gold"), 0)

    def test_the_order_of_the_errors(self):
        self.begin("west")
        self.do(("send", "ann", "out", "gold", 6, 0, 9))
        transfer = ("gold", 2, 0, "ann", "out", 9)
        self.fail_to_take(NotEnoughWeight, ("return", "west", 5, transfer), ("g1", "g2"))
        self.take(("return", "west", 0, transfer))
        self.fail_to_take(UnknownTransfer, ("return", "west", 0, SMALL))
        self.fail_to_take(AlreadyTaken, ("return", "west", 0, transfer))

    def test_returns_do_not_fill_the_window(self):
        self.take(("deliver", "west", 0, ("gold", 7, 0, "out", "ann", 9)))
        self.do(("send", "ann", "out", "gold", 7, 0, 9))
        self.take(("return", "east", 0, ("gold", 7, 0, "ann", "out", 9)))
        self.take(("deliver", "west", 1, ("gold", 7, 0, "out", "ann", 9)))
        self.take(("deliver", "west", 2, ("gold", 6, 0, "out", "ann", 9)))
        self.fail_to_take(LimitReached, ("deliver", "west", 3, ("gold", 1, 0, "out", "ann", 9)))


class TurnTest(Bench):
    """rotate, stop and resume."""

    def test_epochs(self):
        sets = [GUARDS, (("h1", 3), ("h2", 1)), (("h1", 1),), GUARDS]
        names = [THREE, ("h1",), ("h1",)]
        for epoch in (1, 2, 3):
            for number in (epoch - 1, epoch + 1, epoch + 7):
                if number >= 1:
                    self.fail_to_take(WrongNumber, ("rotate", "both", number, sets[epoch]), ())
                    self.fail_to_take(WrongNumber, ("rotate", "both", number, sets[epoch]), names[epoch - 1])
            letter = ("rotate", "both", epoch, sets[epoch])
            self.fail_to_take(NotEnoughWeight, letter, ())
            self.assertEqual(self.take(letter, names[epoch - 1]), [("rotated", epoch, sets[epoch])])
            self.assertEqual((self.state.epoch(), self.state.guards(epoch)), (epoch, sets[epoch]))
            self.fail_to_take(WrongNumber, letter, names[epoch - 1])
        self.assertEqual([self.state.guards(epoch) for epoch in range(4)], sets)

    def test_stops(self):
        for number in range(3):
            for wrong in (number - 1, number, number + 1):
                if wrong >= 0:
                    self.fail_to_take(WrongNumber, ("resume", "east", wrong, ()), ())
                    self.fail_to_take(WrongNumber, ("resume", "east", wrong, ()))
            for wrong in (number - 1, number + 1, number + 7):
                if wrong >= 0:
                    self.fail_to_take(WrongNumber, ("stop", "east", wrong, ()), ())
                    self.fail_to_take(WrongNumber, ("stop", "east", wrong, ()))
            self.fail_to_take(NotEnoughWeight, ("stop", "east", number, ()), ("g1",))
            self.assertEqual(self.take(("stop", "east", number, ()), ("g1", "g4")), [("stopped", number, ())])
            self.assertEqual((self.state.is_stopped(), self.state.stops()), (True, number + 1))
            for wrong in (number, number + 1):
                self.fail_to_take(WrongNumber, ("stop", "east", wrong, ()))
            for wrong in (number - 1, number + 1):
                if wrong >= 0:
                    self.fail_to_take(WrongNumber, ("resume", "east", wrong, ()), ())
                    self.fail_to_take(WrongNumber, ("resume", "east", wrong, ()))
            self.fail_to_take(NotEnoughWeight, ("resume", "east", number, ()), ("g1", "g4"))
            self.assertEqual(self.take(("resume", "east", number, ())), [("resumed", number, ())])
            self.assertEqual((self.state.is_stopped(), self.state.stops()), (False, number + 1))

    def test_both_sides_count_their_own_stops(self):
        self.begin("west")
        self.assertEqual(self.take(("stop", "west", 0, ())), [("stopped", 0, ())])
        self.assertEqual(self.take(("resume", "west", 0, ())), [("resumed", 0, ())])


if __name__ == "__main__":
    unittest.main()
