"""Points 39, 42, 44 and 55: storms, and the calm after them."""

import random
import unittest

from tests.bench import made_config
from tests.test_bridge import HONEST, PEOPLE, SIDES, Run, check_end
from vaultbridge.audit import shortfalls
from vaultbridge.bag import Bag
from vaultbridge.errors import UnknownSeal
from vaultbridge.gateway import next_height
from vaultbridge.relay import ready_orders
from vaultbridge.relayer import Relayer
from vaultbridge.storm import Storm
from vaultbridge.world import World

TRANSFER = ("gold", 2, 1, "ann", "ben", 50)
NAMES = ["rel", "cat", "ann"]


def number_for(many, relayer, deed, index):
    """The number that asks for a deed."""
    return relayer + many * (deed + 5 * index)


class ToldStorm:
    """A second telling of a storm."""

    def __init__(self, many):
        self.bags = [[] for _ in range(many)]
        self.seals = [[] for _ in range(many)]
        self.flushed = [0] * many
        self.posted = 0

    def spread(self, made):
        while self.posted < made:
            for bag in self.bags:
                bag.append(self.posted)
            self.posted += 1

    def blow(self, n):
        rest, which = divmod(n, len(self.bags))
        rest, deed = divmod(rest, 5)
        bag, seals = self.bags[which], self.seals[which]
        if deed < 3 and bag:
            index = rest % len(bag)
            if deed == 2:
                bag.append(bag[index])
            else:
                item = bag.pop(index)
                if deed == 0 and item not in seals:
                    seals.append(item)
        if deed == 3:
            self.flushed[which] = len(seals)
        if deed == 4:
            for _ in bag:
                if len(seals) > self.flushed[which]:
                    seals.pop()


class StormCase(unittest.TestCase):

    def begin(self, *names):
        self.config = made_config()
        self.world = World(self.config, ["l1"])
        self.names = list(names)
        self.storm = Storm(self.config, self.world, self.names)

    def make_seals(self, many):
        for _ in range(many):
            count = self.world.notary().count()
            self.world.lie("l1", ("deliver", "west", count, TRANSFER))

    def state(self):
        """What the bags and the relayers have."""
        many = range(len(self.names))
        return ([self.storm.bag(index).items_under_way() for index in many],
                [self.storm.relayer(index).seals() for index in many])


class StormTest(StormCase):

    def test_bags_and_relayers(self):
        for many in (1, 2, 3):
            self.begin(*NAMES[:many])
            bags = [self.storm.bag(index) for index in range(many)]
            relayers = [self.storm.relayer(index) for index in range(many)]
            for kind, found in ((Bag, bags), (Relayer, relayers)):
                self.assertEqual([type(one) for one in found], [kind] * many)
                self.assertEqual(len({id(one) for one in found}), many)
            self.assertEqual(self.state(), ([[]] * many, [[]] * many))
            self.assertTrue(all(self.storm.bag(index) is bags[index] for index in range(many)))
            self.assertTrue(all(self.storm.relayer(index) is relayers[index] for index in range(many)))

    def test_the_names_are_not_kept(self):
        self.begin(*NAMES)
        self.names.clear()
        self.make_seals(1)
        self.storm.spread()
        self.assertEqual([self.storm.bag(index).items_under_way() for index in range(3)], [[0]] * 3)

    def test_spreading(self):
        self.begin("rel", "cat")
        self.assertIsNone(self.storm.spread())
        self.assertEqual(self.state()[0], [[], []])
        self.make_seals(3)
        self.storm.spread()
        self.assertEqual(self.state()[0], [[0, 1, 2]] * 2)
        self.storm.spread()
        self.assertEqual(self.state()[0], [[0, 1, 2]] * 2)
        self.storm.bag(0).lose(0)
        self.storm.bag(1).hand_over(2)
        self.storm.spread()
        self.assertEqual(self.state()[0], [[1, 2], [0, 1]])
        self.make_seals(2)
        self.storm.spread()
        self.assertEqual(self.state()[0], [[1, 2, 3, 4], [0, 1, 3, 4]])

    def test_seals_that_were_made_before_the_storm(self):
        self.begin("rel")
        self.make_seals(4)
        late = Storm(self.config, self.world, ["cat"])
        late.spread()
        self.assertEqual(late.bag(0).items_under_way(), [0, 1, 2, 3])
        self.assertEqual(self.state()[0], [[]])

    def blow(self, relayer, deed, index):
        self.assertIsNone(self.storm.blow(number_for(len(self.names), relayer, deed, index)))

    def test_each_deed_by_hand(self):
        for many in (1, 2, 3):
            self.begin(*NAMES[:many])
            self.make_seals(5)
            self.storm.spread()
            at = many - 1
            others = [[0, 1, 2, 3, 4]] * at
            self.blow(at, 0, 3)
            self.assertEqual(self.state(), (others + [[0, 1, 2, 4]], [[]] * at + [[3]]))
            self.blow(at, 1, 4 + 1)
            self.assertEqual(self.state(), (others + [[0, 2, 4]], [[]] * at + [[3]]))
            self.blow(at, 2, 2)
            self.assertEqual(self.state(), (others + [[0, 2, 4, 4]], [[]] * at + [[3]]))
            self.blow(at, 3, 9)
            for index in (3, 0, 1, 0):
                self.blow(at, 0, index)
            self.assertEqual(self.state(), (others + [[]], [[]] * at + [[3, 4, 0, 2]]))
            self.storm.bag(at).post(1)
            self.storm.bag(at).post(1)
            self.blow(at, 4, 9)
            self.assertEqual(self.state(), (others + [[1, 1]], [[]] * at + [[3, 4]]))
            self.blow(at, 4, 0)
            self.assertEqual(self.state(), (others + [[1, 1]], [[]] * at + [[3]]))

    def test_empty_bags(self):
        self.begin("rel", "cat")
        self.make_seals(3)
        self.storm.relayer(1).receive(2)
        self.storm.relayer(1).receive(0)
        for n in range(60):
            self.storm.blow(n)
            self.assertEqual(self.state(), ([[], []], [[], [2, 0]]))
        self.storm.relayer(1).receive(1)
        self.storm.relayer(1).crash(9)
        # one of the numbers let it flush
        self.assertEqual(self.state()[1][1], [2, 0])

    def test_an_item_that_is_no_seal(self):
        """Somebody may put any integer into a bag; handing it over is refused, and it stays there."""
        self.begin("rel", "cat")
        self.make_seals(2)
        self.storm.bag(1).post(99)
        self.storm.spread()
        before = self.state()
        with self.assertRaises(UnknownSeal) as held:
            self.blow(1, 0, 0)
        self.assertIs(type(held.exception), UnknownSeal)
        self.assertEqual(self.state(), before)
        self.blow(1, 0, 1)
        self.blow(1, 1, 0)
        self.assertEqual(self.state(), ([[0, 1], [1]], [[], [0]]))

    def test_drawn_deeds(self):
        for seed in range(60):
            source = random.Random(seed)
            many = source.randint(1, 3)
            self.begin(*NAMES[:many])
            told = ToldStorm(many)
            for _ in range(150):
                deed = source.choice(["seal", "spread"] + ["blow"] * 8)
                if deed == "seal":
                    self.make_seals(source.randint(1, 4))
                elif deed == "spread":
                    self.assertIsNone(self.storm.spread())
                    told.spread(self.world.notary().count())
                else:
                    n = source.randrange(source.choice([1, 20, 200, 10 ** 6, 10 ** 30]))
                    self.assertIsNone(self.storm.blow(n))
                    told.blow(n)
                self.assertEqual(self.state(), (told.bags, told.seals))

    def test_every_seal_is_posted_once_to_each_bag(self):
        self.begin(*NAMES)
        for many in (2, 0, 5, 1):
            self.make_seals(many)
            self.storm.spread()
        self.assertEqual(self.state()[0], [list(range(8))] * 3)


class SubmitTest(StormCase):

    def setUp(self):
        self.begin("rel", "cat")
        letters = [("deliver", "west", number, TRANSFER) for number in range(2)]
        for letter in letters:
            for name in ("g1", "g2", "g3"):
                self.world.notary().seal(name, letter)
        self.takes = [("take", "cat", letter, seals) for letter, seals in zip(letters, ((0, 1, 2), (3, 4, 5)))]

    def test_by_hand(self):
        self.assertEqual(self.storm.submit(1, "east"), 0)
        for seal in (5, 4, 2, 1, 0):
            self.storm.relayer(1).receive(seal)
        self.world.wait("east", ("pay", "ann", "ben", "salt", 1))
        self.assertEqual(self.storm.submit(1, "west"), 0)
        self.assertEqual(self.storm.submit(0, "east"), 0)
        self.assertEqual(self.storm.submit(1, "east"), 1)
        self.assertEqual(self.world.waiting("east"), [("pay", "ann", "ben", "salt", 1), self.takes[0]])
        self.storm.relayer(1).receive(3)
        # those that wait already do not count
        self.assertEqual(self.storm.submit(1, "east"), 2)
        self.assertEqual(self.world.waiting("east")[2:], self.takes)
        self.assertEqual(self.world.waiting("west"), [])
        self.world.mine("east", 0, [1, 2, 3])
        self.assertEqual(self.world.chain("east").receipts(1), ["done", "AlreadyTaken", "done"])
        self.assertEqual(self.storm.submit(1, "east"), 0)

    def test_the_next_block_on_the_best_tip(self):
        """A transfer with a deadline of 0 is refused at the next height, and one of the next height is delivered."""
        chain = self.world.chain("east")
        for deadline, word in ((0, "refused"), (1, "delivered")):
            letter = ("deliver", "west", deadline + 7, ("gold", 2, 1, "ann", "ben", deadline))
            for name in ("g1", "g2", "g3"):
                self.storm.relayer(0).receive(self.world.notary().seal(name, letter))
        self.assertEqual(self.storm.submit(0, "east"), 2)
        self.world.mine("east", 0, [0, 1])
        self.assertEqual([event[0] for event in chain.events(1)], ["refused", "delivered"])
        # on another tip of the same height they would be ready again
        self.world.mine("east", 0, [])
        self.assertEqual((chain.best(), self.storm.submit(0, "east")), (1, 0))

    def test_drawn_worlds(self):
        many = 0
        for seed in range(2000, 2008):
            run = StormRun(seed)
            for step in range(200):
                run.step()
                if step % 10 == 9:
                    many += self.check_submit(run, run.source.randrange(len(run.names)), run.draw(*SIDES))
        self.assertGreater(many, 20)

    def check_submit(self, run, index, side):
        """Compares with the ready orders for all seals; returns how many there are."""
        chain, seals = run.world.chain(side), run.storm.relayer(index).seals()
        state = next_height(chain.state(chain.best()))
        wanted = ready_orders(run.config, run.world.notary(), state, run.names[index], seals)
        before = run.world.waiting(side)
        self.assertEqual(run.storm.submit(index, side), len(wanted))
        self.assertEqual(run.world.waiting(side), before + wanted)
        return len(wanted)


class StormRun(Run):
    """A world of honest guards whose seals are carried by a storm."""

    deeds = ["order"] * 4 + ["mine"] * 9 + ["show"] * 4 + ["work"] * 4 + ["spread"] * 4 + ["blow"] * 8 + [
        "submit"] * 5 + ["bundle", "cancel", "approve", "restart"]

    def __init__(self, seed):
        super().__init__(seed, True)
        self.names = self.source.sample(["rel", "cat", "ben", "relayer"], self.draw(1, 2, 3))
        self.storm = Storm(self.config, self.world, self.names)

    def drawn_set(self):
        return tuple((name, self.source.randint(1, 3)) for name in self.source.sample(HONEST, self.draw(2, 3, 4)))

    def do_spread(self):
        self.storm.spread()

    def do_blow(self):
        """More often than not an item is handed over; crashes are rare, so that relayers have something to bring."""
        many = len(self.names)
        for _ in range(self.source.randint(1, 40)):
            deed = self.draw(*[0] * 30, 1, 1, 2, 2, 2, 3, 3, 4)
            self.storm.blow(number_for(many, self.source.randrange(many), deed, self.source.randrange(1000)))

    def do_submit(self):
        self.storm.submit(self.source.randrange(len(self.names)), self.draw(*SIDES))


class CalmTest(unittest.TestCase):

    def check_best_tips(self, run):
        west, east = [run.world.chain(side).state(run.world.chain(side).best()) for side in SIDES]
        self.assertEqual(shortfalls(run.config, west, east), [])
        for state, token in ((west, "gold"), (east, "salt")):
            self.assertEqual(state.circulating(token) + state.vault(token), 200 * len(PEOPLE))

    def drive(self, seed):
        run = StormRun(seed)
        for _ in range(300):
            run.step()
            self.check_best_tips(run)
        return run

    def test_storms_and_then_calm(self):
        counts = {"sent": 0, "carried": 0, "tips": 0}
        for seed in range(3000, 3016):
            run = self.drive(seed)
            # what the relayers brought, before the calm rounds bring the rest
            counts["carried"] += sum(len(run.events(side, "delivered", "returned")) for side in SIDES)
            counts["tips"] += sum(len(run.world.chain(side).tips()) - 1 for side in SIDES)
            for _ in range(60):
                run.world.calm_round()
                self.check_best_tips(run)
            counts["sent"] += check_end(self, run)
        self.assertGreater(counts["sent"], 200)
        self.assertGreater(counts["carried"], 100)
        self.assertGreater(counts["tips"], 3)


if __name__ == "__main__":
    unittest.main()
