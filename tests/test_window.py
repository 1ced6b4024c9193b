"""Points 26 and 27: the limit in its window of heights, and claims."""

import random
import unittest

from tests.bench import Bench
from vaultbridge.errors import AlreadyTaken, LimitReached, NotEnoughBalance, Stopped, TooEarly, UnknownTransfer


def gold(units, fee=0, deadline=99):
    return ("gold", units, fee, "ann", "ben", deadline)


class Taking(Bench):

    def deliver(self, number, transfer):
        return self.take(("deliver", "west", number, transfer))

    def claim(self, number):
        return self.do(("claim", "rel", number))


class WindowTest(Taking):

    def test_at_and_just_beyond_the_limit(self):
        self.deliver(0, gold(7))
        self.deliver(1, gold(7))
        self.fail_to_take(LimitReached, ("deliver", "west", 2, gold(7)))
        self.deliver(2, gold(6))
        self.fail_to_take(LimitReached, ("deliver", "west", 3, gold(1)))

    def test_one_transfer_beyond_the_limit(self):
        self.begin("east", tokens=[("gold", "west", 3, 4, 50)], balances=[])
        self.fail_to_take(LimitReached, ("deliver", "west", 0, gold(5)))
        self.deliver(0, gold(4))
        self.begin("east", tokens=[("gold", "west", 3, 0, 50)], balances=[])
        self.fail_to_take(LimitReached, ("deliver", "west", 0, gold(1)))

    def test_heights_at_the_edges_of_the_window(self):
        for window in (1, 2, 5):
            self.begin("east", window=window)
            self.rise(3)
            self.deliver(0, gold(7))
            self.deliver(1, gold(7))
            for _ in range(window - 1):
                self.rise()
                self.fail_to_take(LimitReached, ("deliver", "west", 2, gold(7)))
            self.rise()
            for number in (2, 3):
                self.deliver(number, gold(7))
            self.deliver(4, gold(6))
            self.fail_to_take(LimitReached, ("deliver", "west", 5, gold(1)))

    def test_the_window_slides(self):
        self.begin("east", window=3)
        for height in range(12):
            self.deliver(2 * height, gold(5))
            if height >= 2:
                self.fail_to_take(LimitReached, ("deliver", "west", 2 * height + 1, gold(6)))
            self.rise()

    def test_tokens_are_apart(self):
        self.begin("west")
        for number in range(2):
            self.take(("deliver", "east", number, ("salt", 7, 0, "a", "b", 9)))
        self.do(("send", "ann", "out", "gold", 60, 0, 9))
        for number in (2, 3):
            self.take(("deliver", "east", number, gold(7)))
        self.fail_to_take(LimitReached, ("deliver", "east", 4, ("salt", 7, 0, "a", "b", 9)))
        self.take(("deliver", "east", 4, ("salt", 6, 0, "a", "b", 9)))
        self.fail_to_take(LimitReached, ("deliver", "east", 5, gold(7)))
        self.take(("deliver", "east", 5, gold(6)))

    def test_what_was_refused_or_waits_does_not_count(self):
        self.rise()
        for number in range(5):
            self.deliver(number, gold(7, deadline=0))
            self.deliver(10 + number, gold(8))
        for number in (20, 21):
            self.deliver(number, gold(7))
        self.deliver(22, gold(6))
        self.fail_to_take(LimitReached, ("deliver", "west", 23, gold(1)))

    def test_drawn_deliveries_keep_to_the_limit(self):
        source = random.Random(26)
        for window in (1, 2, 3, 4):
            self.begin("east", window=window)
            log, number, refused = [], 0, 0
            for height in range(60):
                for _ in range(source.randint(0, 4)):
                    units = source.randint(1, 7)
                    recent = sum(many for at, many in log if at > height - window)
                    if recent + units > 20:
                        self.fail_to_take(LimitReached, ("deliver", "west", number, gold(units)))
                        refused += 1
                    else:
                        self.deliver(number, gold(units))
                        log.append((height, units))
                        number += 1
                self.rise()
            self.assertGreater(refused, 3 if window > 1 else -1)


class ClaimTest(Taking):

    def test_from_which_height_on(self):
        for delay in (0, 1, 2, 5):
            self.begin("east", delay=delay)
            self.rise(3)
            self.assertEqual(self.deliver(4, gold(8, 3)), [("waiting", 4, gold(8, 3))])
            for _ in range(delay):
                self.fail_with(TooEarly, ("claim", "rel", 4))
                self.rise()
            self.assertEqual(self.claim(4), [("delivered", 4, gold(8, 3))])
            self.has(ben=5, rel=3)
            self.assertEqual((self.state.taken(4), self.state.waiting()), ("delivered", []))
            self.fail_with(UnknownTransfer, ("claim", "rel", 4))

    def test_each_waits_from_its_own_height(self):
        self.deliver(0, gold(8))
        self.rise()
        self.deliver(1, gold(9))
        self.rise()
        self.claim(0)
        self.fail_with(TooEarly, ("claim", "rel", 1))
        self.assertEqual(self.state.waiting(), [1])
        self.rise()
        self.claim(1)

    def test_the_fee_goes_to_who_claims(self):
        self.deliver(0, gold(8, 3))
        self.rise(2)
        self.do(("claim", "cat", 0))
        self.has(ben=5, cat=3, rel=0)

    def test_what_does_not_wait(self):
        self.deliver(0, gold(7))
        self.rise()
        self.deliver(1, gold(9, deadline=0))
        for number in (0, 1, 2, -1):
            self.fail_with(UnknownTransfer, ("claim", "rel", number))

    def test_on_the_home_side(self):
        self.begin("west")
        self.take(("deliver", "east", 0, gold(8, 3)))
        self.do(("send", "ann", "out", "gold", 21, 0, 9))
        self.rise(2)
        self.fail_with(NotEnoughBalance, ("claim", "rel", 0))
        self.do(("send", "ben", "out", "gold", 3, 0, 9))
        self.claim(0)
        self.has(ben=10 - 3 + 15, rel=9)
        self.assertEqual(self.state.vault("gold"), 0)

    def test_late_claims_within_the_limit_are_delivered(self):
        self.deliver(0, gold(8, deadline=1))
        self.rise(7)
        self.assertEqual(self.claim(0), [("delivered", 0, gold(8, deadline=1))])

    def test_claims_beyond_the_limit(self):
        self.rise(2)
        self.deliver(0, gold(8, deadline=4))
        self.deliver(1, gold(8, deadline=5))
        self.deliver(2, gold(20, deadline=3))
        self.deliver(3, gold(21, deadline=4))
        self.rise(2)
        self.deliver(4, gold(7))
        self.deliver(5, gold(6))
        self.fail_with(LimitReached, ("claim", "rel", 0))
        self.fail_with(LimitReached, ("claim", "rel", 1))
        self.fail_with(LimitReached, ("claim", "rel", 3))
        self.assertEqual(self.claim(2), [("refused", 2, gold(20, deadline=3))])
        self.rise()
        self.fail_with(LimitReached, ("claim", "rel", 1))
        before = self.state.circulating("gold")
        self.assertEqual(self.claim(0), [("refused", 0, gold(8, deadline=4))])
        self.assertEqual(self.claim(3), [("refused", 3, gold(21, deadline=4))])
        self.assertEqual((self.state.circulating("gold"), self.state.taken(0), self.state.waiting()),
                         (before, "refused", [1]))
        self.fail_with(UnknownTransfer, ("claim", "rel", 0))
        self.rise()
        self.rise()
        self.assertEqual(self.claim(1), [("delivered", 1, gold(8, deadline=5))])

    def test_claims_at_and_just_beyond_the_limit(self):
        for units in (1, 2):
            self.begin("east")
            self.deliver(3, gold(12))
            self.rise(2)
            self.deliver(0, gold(7))
            self.deliver(1, gold(units))
            if units == 1:
                self.assertEqual(self.claim(3), [("delivered", 3, gold(12))])
                self.fail_to_take(LimitReached, ("deliver", "west", 5, gold(1)))
            else:
                self.fail_with(LimitReached, ("claim", "rel", 3))

    def test_claims_fill_the_window_at_their_own_height(self):
        self.deliver(0, gold(15))
        self.rise(2)
        self.claim(0)
        self.fail_to_take(LimitReached, ("deliver", "west", 1, gold(6)))
        self.rise(2)
        self.fail_to_take(LimitReached, ("deliver", "west", 1, gold(6)))
        self.rise()
        self.deliver(1, gold(6))

    def test_transfers_that_are_refused_do_not_come_back(self):
        self.deliver(0, gold(21, deadline=1))
        self.rise(2)
        self.claim(0)
        self.fail_to_take(AlreadyTaken, ("deliver", "west", 0, gold(21, deadline=1)))
        self.fail_to_take(UnknownTransfer, ("cancel", "west", 0, gold(21, deadline=1)))

    def test_the_order_of_the_errors(self):
        self.begin("west")
        self.take(("deliver", "east", 0, gold(21, deadline=5)))
        self.take(("deliver", "east", 1, gold(20, deadline=5)))
        self.take(("stop", "west", 0, ()))
        self.fail_with(Stopped, ("claim", "rel", 7))
        self.fail_with(Stopped, ("claim", "rel", 0))
        self.take(("resume", "west", 0, ()))
        self.fail_with(UnknownTransfer, ("claim", "rel", 7))
        self.fail_with(TooEarly, ("claim", "rel", 0))
        self.rise(2)
        self.fail_with(LimitReached, ("claim", "rel", 0))
        self.fail_with(NotEnoughBalance, ("claim", "rel", 1))


if __name__ == "__main__":
    unittest.main()
