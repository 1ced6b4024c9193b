"""Points 17 to 20 and 28 to 30: the orders that need no letter, and what a state tells."""

import unittest

from tests.bench import ACCOUNTS, Bench, inside, made_config, shown
from vaultbridge.errors import (
    InvalidOrder, NotEnoughBalance, NothingBonded, StillOnDuty, Stopped, UnknownToken, WrongNumber)
from vaultbridge.gateway import next_height
from vaultbridge.state import opening_state


class StateTest(Bench):

    def test_the_state_after_the_first_block(self):
        for side, other in (("west", "east"), ("east", "west")):
            config = made_config()
            state = opening_state(config, side)
            self.assertEqual((state.side(), state.height(), state.epoch()), (side, 0, 0))
            self.assertIs(state.is_stopped(), False)
            self.assertEqual((state.stops(), state.transfers(), state.waiting()), (0, [], []))
            self.assertEqual(state.guards(0), config.guards())
            self.assertEqual([state.taken(0), state.is_returned(0)], [None, False])
            opening = {}
            for account, token, amount in config.opening(side):
                opening[account, token] = opening.get((account, token), 0) + amount
            for name in ACCOUNTS:
                for token in config.token_names():
                    self.assertEqual(state.balance(name, token), opening.get((name, token), 0))
                    self.assertEqual((state.bonded(name, token), state.vault(token)), (0, 0))
            for token in config.token_names():
                self.assertEqual(state.bonded_guards(token), [])
                whole = sum(opening[place] for place in opening if place[1] == token)
                self.assertEqual(state.circulating(token), whole)

    def test_opening_balances_are_added(self):
        self.begin("west", balances=[("ann", "gold", 3), ("ann", "gold", 4), ("ann", "salt", 9)])
        self.assertEqual((self.state.balance("ann", "gold"), self.state.balance("ann", "salt")), (7, 0))

    def test_sets_of_epochs(self):
        self.take(("rotate", "both", 1, (("h1", 2),)))
        self.assertEqual((self.state.guards(0), self.state.guards(1)), (self.config.guards(), (("h1", 2),)))
        for epoch in (-1, 2, 9):
            with self.assertRaises(WrongNumber):
                self.state.guards(epoch)

    def test_unknown_numbers_and_tokens(self):
        for number in (-1, 0, 5):
            self.assertIsNone(self.state.taken(number))
            self.assertIs(self.state.is_returned(number), False)
        with self.assertRaises(UnknownToken):
            self.state.bonded_guards("iron")

    def test_bonded_guards(self):
        self.begin("west")
        for name, amount in (("out", 2), ("ann", 3), ("g1", 1)):
            self.do(("bond", name, "gold", amount))
        self.assertEqual(self.state.bonded_guards("gold"), ["ann", "g1", "out"])
        self.assertEqual(self.state.bonded_guards("salt"), [])
        self.do(("unbond", "ann", "gold", 2))
        self.do(("unbond", "out", "gold", 2))
        self.assertEqual(self.state.bonded_guards("gold"), ["ann", "g1"])

    def test_next_height_changes_the_height_alone(self):
        self.begin("east", delay=0)
        self.do(("bond", "ann", "salt", 4))
        self.do(("send", "ann", "out", "salt", 9, 1, 5))
        self.take(("deliver", "west", 0, ("gold", 1, 0, "out", "ann", 9)))
        self.take(("deliver", "west", 1, ("gold", 8, 0, "out", "ann", 9)))
        self.take(("rotate", "both", 1, (("g1", 1),)))
        self.take(("stop", "east", 0, ()), ("g1",))
        before, wanted = inside(self.state), shown(self.config, self.state)
        after = next_height(self.state)
        self.assertEqual(inside(self.state), before)
        self.assertEqual(wanted["head"], ("east", 0, 1, True, 1))
        wanted["head"] = ("east", 1, 1, True, 1)
        self.assertEqual(shown(self.config, after), wanted)

    def test_a_state_and_the_one_after_it_are_apart(self):
        self.begin("west")
        states, told = [self.state], [inside(self.state)]
        orders = [("pay", "ann", "ben", "gold", 1), ("send", "ann", "out", "gold", 3, 0, 9), ("bond", "ann", "gold", 1),
                  self.taking(("deliver", "east", 0, ("salt", 1, 0, "a", "b", 9))),
                  self.taking(("deliver", "east", 1, ("salt", 8, 0, "a", "b", 9))),
                  self.taking(("return", "west", 0, ("gold", 1, 0, "ann", "out", 9))),
                  self.taking(("rotate", "both", 1, self.config.guards())), self.taking(("stop", "west", 0, ()))]
        for order in orders:
            self.do(order)
            states.append(self.state)
            told.append(inside(self.state))
        self.assertEqual([inside(state) for state in states], told)


class FormTest(Bench):

    def test_orders_that_are_none(self):
        good = [("pay", "ann", "ben", "salt", 1), ("send", "ann", "ben", "salt", 2, 0, 1),
                ("take", "rel", ("stop", "east", 0, ()), ()), ("claim", "rel", 0), ("bond", "ann", "salt", 1),
                ("unbond", "ann", "salt", 1), ("accuse", "ann", 0, 0)]
        for order in good:
            for wrong in (order[:-1], order + (1,), order + ((),), order[1:], (order[0],)):
                self.fail_with(InvalidOrder, wrong)
            for word in ("what", "", order[0].upper(), order[0] + " ", 7, None, (), (order[0],)):
                self.fail_with(InvalidOrder, (word,) + order[1:])
        for wrong in ((), ("",), ("what",), (0,), ((),), (None, None), ("", "", "", "")):
            self.fail_with(InvalidOrder, wrong)


class PayTest(Bench):

    def setUp(self):
        self.begin("west")

    def test_done(self):
        self.assertEqual(self.do(("pay", "ann", "cat", "gold", 4)), [])
        self.has(ann=56, cat=4)
        self.assertEqual(self.do(("pay", "ann", "cat", "gold", 56)), [])
        self.has(ann=0, cat=60)

    def test_amounts(self):
        for amount in (0, -1, -60):
            self.fail_with(InvalidOrder, ("pay", "ann", "cat", "gold", amount))
        for amount in (11, 12, 900):
            self.fail_with(NotEnoughBalance, ("pay", "ben", "cat", "gold", amount))
        self.do(("pay", "ben", "cat", "gold", 1))

    def test_a_sender_may_pay_itself(self):
        self.assertEqual(self.do(("pay", "ben", "ben", "gold", 10)), [])
        self.has(ben=10)
        self.fail_with(NotEnoughBalance, ("pay", "ben", "ben", "gold", 11))

    def test_the_order_of_the_errors(self):
        self.fail_with(InvalidOrder, ("pay", "nobody", "cat", "iron", 0))
        self.fail_with(UnknownToken, ("pay", "nobody", "cat", "iron", 1))
        self.fail_with(NotEnoughBalance, ("pay", "nobody", "cat", "gold", 1))

    def test_a_stopped_gateway_lets_pay(self):
        self.take(("stop", "west", 0, ()))
        self.do(("pay", "ann", "cat", "gold", 4))
        self.has(cat=4)


class SendTest(Bench):

    def test_on_the_home_side(self):
        self.begin("west")
        transfer = ("gold", 4, 1, "ann", "out", 7)
        self.assertEqual(self.do(("send", "ann", "out", "gold", 14, 1, 7)), [("sent", 0, transfer)])
        self.has(ann=48, out=9)
        self.assertEqual((self.state.vault("gold"), self.state.circulating("gold")), (12, 76))
        second = ("gold", 1, 0, "ben", "cat", 0)
        self.assertEqual(self.do(("send", "ben", "cat", "gold", 3, 0, 0)), [("sent", 1, second)])
        self.assertEqual((self.state.transfers(), self.state.vault("gold")), ([transfer, second], 15))

    def test_on_the_other_side(self):
        self.take(("deliver", "west", 0, ("gold", 6, 0, "ann", "ben", 9)))
        transfer = ("gold", 5, 5, "ben", "out", 0)
        self.assertEqual(self.do(("send", "ben", "out", "gold", 5, 5, 0)), [("sent", 0, transfer)])
        self.has(ben=1, out=0)
        self.assertEqual((self.state.vault("gold"), self.state.circulating("gold")), (0, 1))
        self.assertEqual(self.state.transfers(), [transfer])

    def test_units_are_rounded_down(self):
        self.begin("west")
        for amount, units in ((3, 1), (4, 1), (5, 1), (6, 2), (11, 3)):
            events = self.do(("send", "ann", "out", "gold", amount, 0, 7))
            self.assertEqual(events[0][2][1], units)
        self.has(ann=60 - 3 * 8)
        for amount in (2, 1, 0, -1, -3, -30):
            self.fail_with(InvalidOrder, ("send", "ann", "out", "gold", amount, 0, 7))

    def test_the_sender_needs_the_whole_amount(self):
        self.begin("west")
        self.fail_with(NotEnoughBalance, ("send", "ben", "out", "gold", 11, 0, 7))
        self.fail_with(NotEnoughBalance, ("send", "ben", "out", "gold", 12, 0, 7))
        self.do(("send", "ben", "out", "gold", 10, 0, 7))
        self.has(ben=1)

    def test_amounts_on_the_other_side(self):
        self.take(("deliver", "west", 0, ("gold", 6, 0, "ann", "ben", 9)))
        for amount in (0, -1):
            self.fail_with(InvalidOrder, ("send", "ben", "out", "gold", amount, 0, 7))
        self.fail_with(NotEnoughBalance, ("send", "ben", "out", "gold", 7, 0, 7))
        self.do(("send", "ben", "out", "gold", 6, 0, 7))
        self.has(ben=0)

    def test_fees_and_deadlines(self):
        self.begin("west")
        for fee in (-1, 3, 6, 7):
            self.fail_with(InvalidOrder, ("send", "ann", "out", "gold", 8, fee, 7))
        for deadline in (-1, -9):
            self.fail_with(InvalidOrder, ("send", "ann", "out", "gold", 8, 0, deadline))
        for fee, deadline in ((0, 0), (2, 0), (1, 10 ** 9)):
            self.do(("send", "ann", "out", "gold", 8, fee, deadline))

    def test_the_order_of_the_errors(self):
        self.begin("west")
        self.fail_with(UnknownToken, ("send", "nobody", "out", "iron", 0, -1, -1))
        self.fail_with(InvalidOrder, ("send", "nobody", "out", "gold", 0, 0, 0))
        self.fail_with(InvalidOrder, ("send", "nobody", "out", "gold", 9, -1, 0))
        self.fail_with(InvalidOrder, ("send", "nobody", "out", "gold", 9, 0, -1))
        self.fail_with(NotEnoughBalance, ("send", "nobody", "out", "gold", 9, 0, 0))
        self.take(("stop", "west", 0, ()))
        self.fail_with(Stopped, ("send", "nobody", "out", "iron", 0, -1, -1))
        self.fail_with(Stopped, ("send", "ann", "out", "gold", 9, 0, 0))
        self.take(("resume", "west", 0, ()))
        self.do(("send", "ann", "out", "gold", 9, 0, 0))


class BondTest(Bench):

    def setUp(self):
        self.begin("west")

    def test_there_and_back(self):
        self.assertEqual(self.do(("bond", "out", "gold", 5)), [])
        self.assertEqual((self.state.balance("out", "gold"), self.state.bonded("out", "gold")), (4, 5))
        self.assertEqual(self.state.circulating("gold"), 88)
        self.do(("bond", "out", "gold", 4))
        self.fail_with(NotEnoughBalance, ("bond", "out", "gold", 1))
        self.assertEqual(self.do(("unbond", "out", "gold", 8)), [])
        self.assertEqual((self.state.balance("out", "gold"), self.state.bonded("out", "gold")), (8, 1))
        self.fail_with(NotEnoughBalance, ("unbond", "out", "gold", 2))
        self.do(("unbond", "out", "gold", 1))
        self.assertEqual(self.state.circulating("gold"), 88)

    def test_the_order_of_the_errors(self):
        for amount in (0, -1):
            self.fail_with(InvalidOrder, ("bond", "nobody", "iron", amount))
            self.fail_with(InvalidOrder, ("unbond", "g1", "iron", amount))
        self.fail_with(UnknownToken, ("bond", "nobody", "iron", 1))
        self.fail_with(UnknownToken, ("unbond", "g1", "iron", 1))
        self.fail_with(NotEnoughBalance, ("bond", "nobody", "gold", 1))
        self.fail_with(StillOnDuty, ("unbond", "g1", "gold", 1))
        self.fail_with(NotEnoughBalance, ("unbond", "nobody", "gold", 1))

    def test_guards_on_duty(self):
        self.do(("bond", "g1", "gold", 9))
        self.do(("pay", "ann", "h1", "gold", 9))
        self.do(("bond", "h1", "gold", 9))
        self.do(("unbond", "h1", "gold", 1))
        self.fail_with(StillOnDuty, ("unbond", "g1", "gold", 1))
        self.take(("rotate", "both", 1, (("h1", 1), ("g2", 1))))
        for name in ("g1", "g2", "g3", "h1"):
            self.fail_with(StillOnDuty, ("unbond", name, "gold", 1))
        self.take(("rotate", "both", 2, (("h2", 1),)), ("h1", "g2"))
        for name in ("g2", "h1", "h2"):
            self.fail_with(StillOnDuty, ("unbond", name, "gold", 1))
        self.do(("unbond", "g1", "gold", 9))
        self.take(("rotate", "both", 3, (("g1", 1),)), ("h2",))
        self.fail_with(StillOnDuty, ("unbond", "g1", "gold", 1))
        self.do(("unbond", "h1", "gold", 8))
        self.assertEqual(self.state.bonded_guards("gold"), [])

    def test_a_stopped_gateway_lets_bond(self):
        self.take(("stop", "west", 0, ()))
        self.do(("bond", "out", "gold", 5))
        self.do(("unbond", "out", "gold", 5))


class AccuseTest(Bench):

    def setUp(self):
        self.begin("west")
        self.one = ("deliver", "east", 0, ("salt", 1, 0, "a", "b", 9))
        self.other = ("deliver", "east", 0, ("salt", 2, 0, "a", "b", 9))

    def bad_pair(self, guard):
        return self.seals(self.one, (guard,)) + self.seals(self.other, (guard,))

    def test_all_bonds_go_to_the_accuser(self):
        first, second = self.bad_pair("g1")
        self.do(("bond", "g1", "gold", 7))
        self.do(("bond", "out", "gold", 5))
        self.take(("deliver", "east", 5, ("salt", 4, 0, "a", "g1", 9)))
        self.do(("bond", "g1", "salt", 3))
        self.assertEqual(self.do(("accuse", "cat", second, first)), [("punished", second, ("g1",))])
        self.assertEqual([self.state.balance("cat", token) for token in ("gold", "salt")], [7, 3])
        self.assertEqual([self.state.balance("g1", token) for token in ("gold", "salt")], [2, 1])
        self.assertEqual([self.state.bonded("g1", token) for token in ("gold", "salt")], [0, 0])
        self.assertEqual([self.state.bonded("out", token) for token in ("gold", "salt")], [5, 0])
        self.fail_with(NothingBonded, ("accuse", "cat", first, second))
        self.do(("bond", "g1", "gold", 2))
        self.assertEqual(self.do(("accuse", "ann", first, second)), [("punished", first, ("g1",))])
        self.has(ann=62, g1=0)

    def test_a_guard_may_accuse_itself(self):
        first, second = self.bad_pair("g1")
        self.do(("bond", "g1", "gold", 7))
        self.assertEqual(self.do(("accuse", "g1", first, second)), [("punished", first, ("g1",))])
        self.has(g1=9)
        self.assertEqual(self.state.bonded("g1", "gold"), 0)

    def test_strangers_and_stopped_gateways(self):
        first, second = self.bad_pair("out")
        self.do(("bond", "out", "gold", 1))
        self.take(("stop", "west", 0, ()))
        self.assertEqual(self.do(("accuse", "cat", first, second)), [("punished", first, ("out",))])
        self.has(cat=1)

    def test_all_kinds_of_letters(self):
        sets = [("rotate", "both", 1, (("a", 1),)), ("rotate", "both", 1, (("a", 2),))]
        bundles = [("bundle", "east", 0, (self.one[3],)), ("bundle", "east", 0, (self.one[3],) * 2)]
        returns = [("return", "west", 4, self.one[3]), ("return", "west", 4, self.other[3])]
        for pair in (sets, bundles, returns):
            self.do(("bond", "g1", "gold", 1))
            seals = [self.seals(letter, ("g1",))[0] for letter in pair]
            self.assertEqual(self.do(("accuse", "cat", *seals)), [("punished", seals[0], ("g1",))])

    def test_seals_that_prove_nothing(self):
        for name in ("g1", "out"):
            self.do(("bond", name, "gold", 1))
        first, second = self.bad_pair("g1")
        stranger = self.seals(self.other, ("out",))[0]
        for letter in (("deliver", "east", 1, self.other[3]), ("deliver", "west", 0, self.other[3]),
                       ("cancel", "east", 0, self.other[3]), ("bundle", "east", 0, (self.other[3],))):
            self.fail_with(InvalidOrder, ("accuse", "cat", first, self.seals(letter, ("g1",))[0]))
        for pair in ((first, first), (second, second), (first, stranger), (stranger, first), (second, stranger)):
            self.fail_with(InvalidOrder, ("accuse", "cat", *pair))

    def test_the_order_of_the_errors(self):
        first, second = self.bad_pair("g2")
        self.fail_with(InvalidOrder, ("accuse", "cat", first, first))
        self.fail_with(NothingBonded, ("accuse", "cat", first, second))


if __name__ == "__main__":
    unittest.main()
