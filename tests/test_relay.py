"""Point 39: ready orders."""

import unittest

from tests.bench import Bench, inside
from tests.model import Model
from tests.test_drawn import SIDES, grown
from vaultbridge.gateway import next_height, outcome
from vaultbridge.relay import ready_orders

SMALL = ("gold", 2, 1, "ann", "ben", 50)
LARGE = ("gold", 9, 2, "ann", "ben", 50)
NAMES = ["g1", "g2", "g3", "g4", "h1", "h2", "ann"]


def told_ready(model, notary, relayer, seals):
    """A second telling of point 39; the model is carried along."""
    found = []
    for number in range(notary.count()):
        letter = notary.shown(number)[1]
        same = [other for other in range(notary.count()) if other in seals and notary.shown(other)[1] == letter]
        if number in same and number == min(same):
            order = ("take", relayer, letter, tuple(same))
            if model.do(order)[0] == "done":
                found.append(order)
    for number in model.waiting():
        if model.do(("claim", relayer, number))[0] == "done":
            found.append(("claim", relayer, number))
    return found


class DrawnRelayTest(unittest.TestCase):

    def seal_some(self, bridge, side, state):
        """Adds seals by many guards for letters that may be true, so that some are ready."""
        for _ in range(bridge.source.randint(0, 8)):
            letter = bridge.letter(side, state)
            for name in bridge.source.sample(NAMES, bridge.source.randint(2, 7)):
                bridge.notary.seal(name, letter)

    def drawn_seals(self, bridge):
        every = list(range(bridge.notary.count()))
        some = bridge.source.sample(every, bridge.source.randint(0, len(every)))
        seals = bridge.draw(every, some) + bridge.source.sample(every, len(every) // 3)
        bridge.source.shuffle(seals)
        return seals

    def check(self, bridge, side, number):
        chain = bridge.chains[side]
        model = Model(bridge.config, bridge.notary, side)
        for block in chain.line(number):
            for order in chain.orders(block):
                model.do(order)
            model.height += 1
        state, seals = next_height(chain.state(number)), self.drawn_seals(bridge)
        before = inside([state, bridge.notary, seals])
        found = ready_orders(bridge.config, bridge.notary, state, "rel", seals)
        self.assertEqual(found, told_ready(model, bridge.notary, "rel", seals))
        self.assertEqual(inside([state, bridge.notary, seals]), before)
        for order in found:
            state = outcome(bridge.config, bridge.notary, state, order)[0]
        return found

    def test_ready_orders_are_as_a_second_telling_says(self):
        kinds = {}
        for seed in range(500, 540):
            bridge = grown(seed, 25)
            for side in SIDES:
                chain = bridge.chains[side]
                for number in (chain.best(), bridge.draw(*chain.numbers())):
                    self.seal_some(bridge, side, chain.state(number))
                    for order in self.check(bridge, side, number):
                        word = order[2][0] if order[0] == "take" else "claim"
                        kinds[word] = kinds.get(word, 0) + 1
        self.assertEqual(set(kinds), set("deliver bundle return cancel rotate stop resume claim".split()))
        self.assertGreater(kinds["deliver"] + kinds["bundle"], 50)


class ReadyTest(Bench):

    def ready(self, *seals):
        return ready_orders(self.config, self.notary, self.state, "rel", list(seals))

    def takes(self, *letters, names=("g1", "g2", "g3")):
        return [("take", "rel", letter, tuple(sorted(self.seals(letter, names)))) for letter in letters]

    def test_none_without_seals(self):
        self.assertEqual(self.ready(), [])
        self.seals(("deliver", "west", 0, SMALL))
        self.assertEqual(self.ready(), [])

    def test_only_seals_that_it_has_count(self):
        letter = ("deliver", "west", 0, SMALL)
        self.seals(letter, ("g1", "g2", "g3", "g4"))
        self.assertEqual(self.ready(0, 1), [])
        self.assertEqual(self.ready(3, 1, 0), [("take", "rel", letter, (0, 1, 3))])
        self.assertEqual(self.ready(1, 3, 0, 2), [("take", "rel", letter, (0, 1, 2, 3))])

    def test_each_seal_once_in_ascending_order_also_of_others(self):
        letter = ("deliver", "west", 0, SMALL)
        self.seals(letter, ("ann", "g3", "g2", "g1"))
        self.assertEqual(self.ready(3, 0, 3, 2, 2, 1, 0), [("take", "rel", letter, (0, 1, 2, 3))])

    def test_the_order_of_the_smallest_numbers(self):
        first, second, third = [("deliver", "west", number, SMALL) for number in (7, 3, 5)]
        self.notary.seal("g4", second)
        for letter in (first, second, third):
            self.seals(letter)
        self.assertEqual(self.ready(*range(9, -1, -1)), [
            ("take", "rel", second, (0, 4, 5, 6)), ("take", "rel", first, (1, 2, 3)),
            ("take", "rel", third, (7, 8, 9))])
        # without seal 0 the first letter comes first
        self.assertEqual(self.ready(*range(1, 10)), self.takes(first, second, third))

    def test_letters_that_raise_an_error_are_left_out(self):
        letters = [("deliver", "east", 0, SMALL), ("deliver", "west", 0, ("iron",) + SMALL[1:]),
                   ("stop", "west", 0, ()), ("return", "east", 0, SMALL), ("deliver", "west", 1, SMALL),
                   ("rotate", "both", 2, (("h1", 1),)), ("cancel", "west", 1, SMALL), ("resume", "east", 0, ())]
        seals = [number for letter in letters for number in self.seals(letter)]
        self.assertEqual(self.ready(*seals), self.takes(letters[4]))

    def test_each_on_the_state_that_those_before_it_leave(self):
        self.begin("east", tokens=[("gold", "west", 3, 5, 8)], balances=[])
        letters = [("bundle", "west", 0, (SMALL, SMALL)), ("deliver", "west", 0, SMALL), ("deliver", "west", 2, SMALL),
                   ("deliver", "west", 3, ("gold", 1, 0, "ann", "ben", 9)), ("deliver", "west", 4, SMALL)]
        seals = [number for letter in letters for number in self.seals(letter)]
        # four of five units are delivered by the bundle, so only the single unit has room
        self.assertEqual(self.ready(*seals), self.takes(letters[0], letters[3]))
        self.assertEqual(self.ready(*seals[3:]), self.takes(letters[1], letters[2], letters[3]))

    def test_a_new_epoch_on_the_way(self):
        rotate = ("rotate", "both", 1, (("h1", 1),))
        by_new = ("deliver", "west", 0, SMALL)
        seals = self.seals(by_new, ("h1",)) + self.seals(rotate)
        self.assertEqual(self.ready(*seals), self.takes(rotate))
        later = ("deliver", "west", 1, SMALL)
        seals += self.seals(later, ("h1",))
        self.assertEqual(self.ready(*seals), self.takes(rotate) + self.takes(later, names=("h1",)))

    def test_a_stop_on_the_way(self):
        stop, letter = ("stop", "east", 0, ()), ("deliver", "west", 0, SMALL)
        self.assertEqual(self.ready(*self.seals(stop), *self.seals(letter)), self.takes(stop))

    def test_claims_come_last_in_ascending_order(self):
        for number in (5, 2, 3):
            self.take(("deliver", "west", number, LARGE))
        self.assertEqual(self.ready(), [])
        self.rise(2)
        # the limit is 20, so that the third one goes beyond it
        self.assertEqual(self.ready(), [("claim", "rel", 2), ("claim", "rel", 3)])
        letter = ("deliver", "west", 0, SMALL)
        seals = self.seals(letter)
        self.assertEqual(self.ready(*seals), self.takes(letter) + [("claim", "rel", 2), ("claim", "rel", 3)])
        letters = [("deliver", "west", number, ("gold", 2, 0, "ann", "ben", 50)) for number in (0, 1)]
        seals = [number for letter in letters for number in self.seals(letter)]
        self.assertEqual(self.ready(*seals), self.takes(*letters) + [("claim", "rel", 2)])

    def test_a_claim_that_fails_leaves_later_ones(self):
        self.begin("east", tokens=[("gold", "west", 3, 8, 3)], balances=[])
        for number, units in ((4, 7), (1, 5), (2, 6), (3, 3)):
            self.take(("deliver", "west", number, ("gold", units, 0, "ann", "ben", 50)))
        self.rise(2)
        self.assertEqual(self.ready(), [("claim", "rel", 1), ("claim", "rel", 3)])

    def test_claims_for_what_waits_after_the_letters(self):
        self.begin("east", delay=0)
        letter, cancel = ("deliver", "west", 4, LARGE), ("cancel", "west", 4, LARGE)
        seals = self.seals(letter)
        self.assertEqual(self.ready(*seals), self.takes(letter) + [("claim", "rel", 4)])
        # a cancel letter behind it takes the transfer away again
        seals += self.seals(cancel)
        self.assertEqual(self.ready(*seals), self.takes(letter, cancel))

    def test_claims_that_refuse(self):
        self.begin("east", tokens=[("gold", "west", 3, 5, 8)], balances=[])
        self.take(("deliver", "west", 0, LARGE))
        self.rise(50)
        self.assertEqual(self.ready(), [])
        self.rise()
        self.assertEqual(self.ready(), [("claim", "rel", 0)])

    def test_no_claims_while_it_is_stopped(self):
        self.take(("deliver", "west", 2, LARGE))
        self.take(("stop", "east", 0, ()))
        self.rise(5)
        self.assertEqual(self.ready(), [])
        resume = ("resume", "east", 0, ())
        seals = self.seals(resume)
        self.assertEqual(self.ready(*seals), self.takes(resume) + [("claim", "rel", 2)])

    def test_the_relayer_stands_in_the_orders_and_gets_the_fee(self):
        letter = ("deliver", "west", 0, SMALL)
        seals = list(self.seals(letter))
        found = ready_orders(self.config, self.notary, self.state, "cat", seals)
        self.assertEqual(found, [("take", "cat", letter, (0, 1, 2))])
        self.do(found[0])
        self.has(cat=1, rel=0)

    def test_lists_belong_to_the_caller(self):
        seals = list(self.seals(("deliver", "west", 0, SMALL)))[::-1]
        before = list(seals)
        ready_orders(self.config, self.notary, self.state, "rel", seals).clear()
        self.assertEqual(seals, before)
        self.assertEqual(len(self.ready(*seals)), 1)


if __name__ == "__main__":
    unittest.main()
