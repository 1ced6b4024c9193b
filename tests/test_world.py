"""Points 33, 40, 41: worlds and calm rounds."""

import random
import unittest

from tests.bench import GUARDS, inside, made_config
from vaultbridge.errors import (
    AlreadyApproved, BridgeError, ConflictsWithFinal, InvalidArgument, InvalidOrder, UnknownParent, UnknownSeal)
from vaultbridge.gateway import next_height, outcome
from vaultbridge.guard import duties, work
from vaultbridge.relay import ready_orders
from vaultbridge.world import World

SIDES = ("west", "east")
PAY = ("pay", "ann", "ben", "gold", 1)
SEND = ("send", "ann", "ben", "gold", 6, 1, 30)
SENT = ("gold", 2, 1, "ann", "ben", 30)
DELIVER = ("deliver", "west", 0, SENT)
SET = (("g2", 1), ("h1", 2), ("h2", 1))
NAMES = ["g1", "g2", "g3", "g4"]


class WorldCase(unittest.TestCase):

    def setUp(self):
        self.begin()

    def begin(self, *liars, **changes):
        changes.setdefault("depth", 1)
        self.config = made_config(**changes)
        self.world = World(self.config, list(liars))

    def fail_with(self, error, deed, *arguments):
        """Checks that a call raises this very error and changes nothing."""
        before = inside(self.world)
        with self.assertRaises(error) as held:
            deed(*arguments)
        self.assertIs(type(held.exception), error)
        self.assertEqual(inside(self.world), before)

    def seals(self):
        notary = self.world.notary()
        return [notary.shown(number) for number in range(notary.count())]


class WaitingTest(WorldCase):

    def test_a_new_world(self):
        for side in SIDES:
            chain = self.world.chain(side)
            self.assertEqual((chain.numbers(), self.world.waiting(side)), ([0], []))
            self.assertEqual(chain.state(0).side(), side)
        self.assertEqual(self.world.notary().count(), 0)
        self.assertIs(self.world.notary(), self.world.notary())
        self.assertEqual(self.world.guards(), NAMES)

    def test_orders_wait_on_their_side(self):
        self.assertIsNone(self.world.wait("west", PAY))
        self.world.wait("east", SEND)
        self.world.wait("west", SEND)
        self.world.wait("west", PAY)
        self.assertEqual(self.world.waiting("west"), [PAY, SEND, PAY])
        self.assertEqual(self.world.waiting("east"), [SEND])
        self.world.waiting("west").clear()
        self.assertEqual(self.world.waiting("west"), [PAY, SEND, PAY])

    def test_mining(self):
        self.world.wait("west", PAY)
        self.world.wait("west", SEND)
        chosen = [1, 0, 1, 1]
        self.assertEqual(self.world.mine("west", 0, chosen), 1)
        self.assertEqual(chosen, [1, 0, 1, 1])
        chain = self.world.chain("west")
        self.assertEqual(chain.orders(1), (SEND, PAY, SEND, SEND))
        self.assertEqual(chain.receipts(1), ["done"] * 4)
        self.assertEqual(self.world.waiting("west"), [PAY, SEND])
        self.assertEqual(self.world.mine("west", 1, []), 2)
        self.assertEqual((chain.orders(2), chain.parent(2)), ((), 1))
        self.assertEqual(self.world.mine("east", 0, []), 1)
        self.assertEqual(self.world.mine("west", 1, [0]), 3)
        self.assertEqual((chain.numbers(), chain.tips()), ([0, 1, 2, 3], [2, 3]))
        self.assertEqual(self.world.chain("east").numbers(), [0, 1])

    def test_indexes_beyond_the_waiting_orders(self):
        self.fail_with(InvalidArgument, self.world.mine, "west", 0, [0])
        self.world.wait("west", PAY)
        self.world.wait("west", PAY)
        self.world.wait("east", PAY)
        for chosen in ([2], [-1], [0, 1, 2], [0, -3], [0, 1, 99]):
            self.fail_with(InvalidArgument, self.world.mine, "west", 0, chosen)
        self.fail_with(InvalidArgument, self.world.mine, "east", 0, [1])
        # the indexes come before the errors of the ledger
        self.fail_with(InvalidArgument, self.world.mine, "west", 99, [2])

    def test_blocks_that_the_ledger_refuses_get_no_number(self):
        self.world.wait("west", ("take", "rel", DELIVER, (0,)))
        self.fail_with(UnknownSeal, self.world.mine, "west", 0, [0])
        self.fail_with(UnknownParent, self.world.mine, "west", 1, [])
        for parent in (0, 1):
            self.world.mine("west", parent, [])
        self.fail_with(ConflictsWithFinal, self.world.mine, "west", 0, [])
        self.assertEqual(self.world.mine("west", 2, []), 3)
        self.assertEqual(self.world.chain("west").numbers(), [0, 1, 2, 3])


class GuardsTest(WorldCase):

    def test_machines_and_views(self):
        for name in NAMES:
            machine = self.world.machine(name)
            self.assertIs(self.world.machine(name), machine)
            self.assertEqual(machine.journal(), [])
            self.assertIsNot(self.world.view(name, "west"), self.world.view(name, "east"))
            for side in SIDES:
                self.assertIs(self.world.view(name, side), self.world.view(name, side))
                self.assertEqual(self.world.view(name, side).seen(), [0])
        self.assertEqual(self.world.machine("g3").carry_out([("seal", DELIVER)], 1), [0])
        self.assertEqual(self.seals(), [("g3", DELIVER)])

    def test_views_are_of_the_side(self):
        self.world.wait("west", SEND)
        self.world.mine("west", 0, [0])
        self.world.mine("west", 1, [])
        self.world.mine("east", 0, [])
        for number in (1, 2):
            self.world.view("g1", "west").show(number)
        self.world.view("g1", "east").show(1)
        self.assertEqual(self.world.view("g1", "west").final_events(), [("sent", 0, SENT)])
        self.assertEqual(self.world.view("g1", "east").seen(), [0, 1])
        self.assertEqual(self.world.view("g2", "west").seen(), [0])

    def test_there_is_no_such_guard(self):
        self.begin("l1")
        for name in ("h1", "l1", "", "ann"):
            self.fail_with(InvalidArgument, self.world.machine, name)
            self.fail_with(InvalidArgument, self.world.view, name, "west")
            self.fail_with(InvalidArgument, self.world.restart, name, 0)
            self.fail_with(InvalidArgument, self.world.approve, name, 1, SET)

    def test_the_list_of_the_liars_is_not_kept(self):
        liars = ["g1"]
        world = World(made_config(), liars)
        liars[0] = "g2"
        liars.append("g3")
        world.lie("g1", DELIVER)
        with self.assertRaises(InvalidArgument):
            world.lie("g2", DELIVER)

    def test_guards_is_a_new_list_each_time(self):
        self.world.guards().clear()
        self.assertEqual(self.world.guards(), NAMES)


class ApproveTest(WorldCase):

    def test_all_steps(self):
        self.assertIsNone(self.world.approve("g1", 1, SET))
        self.assertEqual(self.seals(), [("g1", ("rotate", "both", 1, SET))])
        self.assertEqual(self.world.machine("g1").journal(), [("approved", 1, SET)])
        self.world.machine("g1").crash(9)
        self.assertEqual(self.world.machine("g1").journal(), [("approved", 1, SET)])

    def test_guards_of_approved_sets(self):
        self.begin("h2")
        self.world.approve("g1", 1, SET)
        self.assertEqual(self.world.guards(), NAMES + ["h1", "h2"])
        machines = {name: self.world.machine(name) for name in self.world.guards()}
        self.world.view("g2", "west")
        self.world.approve("g2", 2, (("a", 1), ("g2", 1), ("h1", 3)))
        self.assertEqual(self.world.guards(), ["a"] + NAMES + ["h1", "h2"])
        for name, machine in machines.items():
            self.assertIs(self.world.machine(name), machine)
        self.assertEqual(self.world.view("a", "east").seen(), [0])
        self.world.approve("a", 7, GUARDS)
        self.assertEqual(self.seals()[-1], ("a", ("rotate", "both", 7, GUARDS)))

    def test_guards_that_there_are_keep_their_journals_and_views(self):
        self.world.mine("west", 0, [])
        self.world.view("g2", "west").show(1)
        self.world.approve("g2", 1, SET)
        self.world.approve("g1", 1, SET)
        self.assertEqual(self.world.view("g2", "west").seen(), [0, 1])
        self.assertEqual(self.world.machine("g2").journal(), [("approved", 1, SET)])

    def test_the_same_set_again_and_another_one(self):
        self.world.approve("g1", 1, SET)
        self.world.approve("g1", 1, SET)
        self.fail_with(AlreadyApproved, self.world.approve, "g1", 1, (("z", 1),))
        self.world.approve("g2", 1, (("y", 1),))
        self.assertEqual(self.world.guards(), NAMES + ["h1", "h2", "y"])
        self.assertEqual(len(self.seals()), 2)

    def test_wrong_arguments(self):
        self.begin("g4", "l1")
        for guard, number, guards in (("g1", 0, SET), ("g1", 1, ()), ("g1", 1, (("z", 0),)), ("g4", 1, SET),
                                      ("l1", 1, SET), ("h1", 1, SET)):
            self.fail_with(InvalidArgument, self.world.approve, guard, number, guards)
        self.assertEqual(self.world.guards(), NAMES)


class LieTest(WorldCase):

    def test_lies(self):
        self.begin("g4", "l1")
        stop = ("stop", "east", 0, ())
        self.assertEqual(self.world.lie("g4", DELIVER), 0)
        self.assertEqual(self.world.lie("g4", stop), 1)
        self.assertEqual(self.world.lie("g4", DELIVER), 0)
        # a liar need not be in a set
        self.assertEqual(self.world.lie("l1", DELIVER), 2)
        self.assertEqual(self.seals(), [("g4", DELIVER), ("g4", stop), ("l1", DELIVER)])
        self.assertEqual(self.world.machine("g4").journal(), [])
        self.assertEqual(self.world.guards(), NAMES)

    def test_lies_by_others_and_malformed_letters(self):
        self.begin("g4")
        for guard in ("g1", "h1", "ann"):
            self.fail_with(InvalidArgument, self.world.lie, guard, DELIVER)
        for letter in ((), ("deliver", "west", 0), ("deliver", "north", 0, SENT), ("deliver", "west", -1, SENT),
                       ("bundle", "west", 0, ()), ("rotate", "both", 0, SET), ("stop", "west", 0, SENT)):
            self.fail_with(InvalidOrder, self.world.lie, "g4", letter)
            self.fail_with(InvalidArgument, self.world.lie, "g1", letter)


class RestartTest(WorldCase):

    def test_the_machine_crashes_and_the_views_are_new(self):
        for side in SIDES:
            self.world.mine(side, 0, [])
            for name in ("g1", "g2"):
                self.world.view(name, side).show(1)
        steps = [("write", ("sealed", DELIVER)), ("flush",), ("write", ("approved", 1, SET)),
                 ("write", ("approved", 2, SET))]
        self.world.machine("g1").carry_out(steps, 4)
        old = self.world.view("g1", "west")
        self.assertIsNone(self.world.restart("g1", 1))
        self.assertEqual(self.world.machine("g1").journal(), [("sealed", DELIVER), ("approved", 1, SET)])
        self.assertIsNot(self.world.view("g1", "west"), old)
        for side in SIDES:
            self.assertEqual(self.world.view("g1", side).seen(), [0])
            self.assertEqual(self.world.view("g2", side).seen(), [0, 1])
        self.world.restart("g1", 99)
        self.assertEqual(self.world.machine("g1").journal(), [("sealed", DELIVER)])
        self.world.restart("g1", 0)
        self.assertEqual(self.world.machine("g1").journal(), [("sealed", DELIVER)])

    def test_liars_restart_too(self):
        self.begin("g4")
        self.world.mine("west", 0, [])
        self.world.view("g4", "west").show(1)
        self.world.restart("g4", 0)
        self.assertEqual(self.world.view("g4", "west").seen(), [0])


class CalmRoundTest(WorldCase):

    def test_waiting_orders_go_into_the_blocks(self):
        self.world.wait("west", PAY)
        self.world.wait("west", ("pay", "nobody", "ann", "gold", 1))
        self.world.wait("west", SEND)
        self.world.wait("east", ("pay", "ann", "ben", "salt", 2))
        self.assertIsNone(self.world.calm_round())
        west, east = self.world.chain("west"), self.world.chain("east")
        self.assertEqual(west.orders(1), (PAY, ("pay", "nobody", "ann", "gold", 1), SEND))
        self.assertEqual(west.receipts(1), ["done", "NotEnoughBalance", "done"])
        self.assertEqual(east.orders(1), (("pay", "ann", "ben", "salt", 2),))
        self.assertEqual((self.world.waiting("west"), self.world.waiting("east")), ([], []))
        self.world.calm_round()
        self.assertEqual((west.orders(2), west.parent(2), east.orders(2)), ((), 1, ()))

    def test_a_transfer_arrives(self):
        self.world.wait("west", SEND)
        # the block with the transfer, the one that makes it deep, and the letters behind the third round's work
        for _ in range(2):
            self.world.calm_round()
            self.assertEqual(self.seals(), [])
        self.world.calm_round()
        self.assertEqual(self.seals(), [(name, DELIVER) for name in NAMES])
        for name in NAMES:
            self.assertEqual(self.world.machine(name).journal(), [("sealed", DELIVER)])
            self.world.machine(name).crash(9)
            self.assertEqual(self.world.machine(name).journal(), [("sealed", DELIVER)])
            # the blocks of the round itself come after the work
            self.assertEqual(self.world.view(name, "west").seen(), [0, 1, 2])
        east = self.world.chain("east")
        self.assertEqual(east.orders(3), (("take", "relayer", DELIVER, (0, 1, 2, 3)),))
        self.assertEqual(east.receipts(3), ["done"])
        state = east.state(3)
        self.assertEqual((state.balance("ben", "gold"), state.balance("relayer", "gold")), (1, 1))

    def test_guards_see_everything_in_ascending_order_of_their_names(self):
        self.begin("g2", "h9", guards=(("h9", 1), ("g2", 1), ("z", 3), ("b", 3), ("a", 1)))
        self.world.wait("east", ("send", "ann", "ben", "salt", 2, 0, 30))
        self.world.wait("west", SEND)
        for _ in range(3):
            self.world.calm_round()
        letters = [DELIVER, ("deliver", "east", 0, ("salt", 1, 0, "ann", "ben", 30))]
        self.assertEqual(self.seals(), [(name, letter) for name in ("a", "b", "z") for letter in letters])
        for name in ("g2", "h9"):
            self.assertEqual(self.world.view(name, "west").seen(), [0])
            self.assertEqual(self.world.machine(name).journal(), [])

    def test_guards_of_approved_sets_work_too(self):
        self.begin("h2")
        self.world.approve("g1", 1, SET)
        self.world.wait("west", SEND)
        for _ in range(3):
            self.world.calm_round()
        self.assertEqual([name for name, letter in self.seals() if letter == DELIVER], NAMES + ["h1"])

    def test_no_bundles(self):
        self.begin(bundle=1)
        self.world.wait("west", SEND)
        for _ in range(4):
            self.world.calm_round()
        self.assertEqual({letter[0] for _, letter in self.seals()}, {"deliver"})

    def test_blocks_lie_on_the_best_tips(self):
        self.begin(depth=3)
        for parent in (0, 0, 2, 1):
            self.world.mine("west", parent, [])
        self.world.mine("east", 0, [])
        self.world.calm_round()
        # the blocks 3 and 4 are equally high
        self.assertEqual(self.world.chain("west").parent(5), 3)
        self.assertEqual(self.world.chain("east").parent(2), 1)

    def test_ready_orders_are_those_behind_the_waiting_ones(self):
        self.world.wait("west", SEND)
        for _ in range(2):
            self.world.calm_round()
        for name in NAMES[:3]:
            self.world.notary().seal(name, DELIVER)
        by_ann = ("take", "ann", DELIVER, (0, 1, 2))
        self.world.wait("east", by_ann)
        self.world.calm_round()
        east = self.world.chain("east")
        self.assertEqual((east.orders(3), east.receipts(3)), ((by_ann,), ["done"]))

    def test_a_stop_among_the_waiting_orders(self):
        stop = ("stop", "east", 0, ())
        self.world.wait("west", SEND)
        for _ in range(2):
            self.world.calm_round()
        seals = tuple(self.world.notary().seal(name, stop) for name in NAMES[:2])
        self.world.wait("east", ("take", "ann", stop, seals))
        self.world.calm_round()
        self.assertEqual(self.world.chain("east").orders(3), (("take", "ann", stop, (0, 1)),))
        self.assertTrue(self.world.chain("east").state(3).is_stopped())

    def test_the_west_comes_first_and_both_see_the_seals_of_the_round(self):
        rotate = ("rotate", "both", 1, SET)
        for name in NAMES[:3]:
            self.world.approve(name, 1, SET)
        self.world.calm_round()
        for side in SIDES:
            self.assertEqual(self.world.chain(side).orders(1), (("take", "relayer", rotate, (0, 1, 2)),))
            self.assertEqual(self.world.chain(side).state(1).epoch(), 1)

    def test_large_transfers_are_claimed(self):
        self.begin(delay=3)
        self.world.wait("west", ("send", "ann", "ben", "gold", 30, 0, 30))
        for _ in range(6):
            self.world.calm_round()
        east = self.world.chain("east")
        self.assertEqual([order[0] for number in range(1, 7) for order in east.orders(number)], ["take", "claim"])
        self.assertEqual(east.orders(6), (("claim", "relayer", 0),))
        self.assertEqual(east.state(6).taken(0), "delivered")

    def test_a_waiting_order_with_a_seal_that_is_not_there(self):
        self.world.wait("west", SEND)
        self.world.calm_round()
        self.world.wait("east", ("accuse", "ann", 0, 1))
        self.fail_with(UnknownSeal, self.world.calm_round)

    def test_a_transfer_that_gives_no_letter_holds_nothing_up(self):
        self.world.wait("west", ("send", "ann", "b" * 21, "gold", 6, 1, 30))
        self.world.wait("west", SEND)
        for _ in range(3):
            self.world.calm_round()
        self.assertEqual(self.world.chain("east").state(3).taken(1), "delivered")
        self.assertIsNone(self.world.chain("east").state(3).taken(0))


class TwinTest(unittest.TestCase):
    """Two worlds go the same way; the calm rounds of the second one are made by hand, as point 41 tells."""

    def by_hand(self, world, config, liars, numbers):
        for guard in sorted(set(world.guards()) - set(liars)):
            for side in SIDES:
                for number in world.chain(side).numbers():
                    world.view(guard, side).show(number)
            steps = work(world.view(guard, "west"), world.view(guard, "east"), world.machine(guard).journal())
            world.machine(guard).carry_out(steps, len(steps))
        for side in SIDES:
            chain, notary = world.chain(side), world.notary()
            state = next_height(chain.state(chain.best()))
            waiting = [order for order in numbers["waiting"][side]]
            for order in waiting:
                try:
                    state = outcome(config, notary, state, order)[0]
                except BridgeError:
                    pass
            ready = ready_orders(config, notary, state, "relayer", list(range(notary.count())))
            numbers[side] += 1
            chain.add(numbers[side], chain.best(), tuple(waiting + ready))
            numbers["waiting"][side] = []

    def drawn_order(self, source, world, side):
        other = "east" if side == "west" else "west"
        home = "gold" if side == "west" else "salt"
        letters = [("deliver", other) + event[1:] for number in world.chain(other).numbers()
                   for event in world.chain(other).events(number) if event[0] == "sent"]
        if letters and source.random() < 0.3:
            letter, every = source.choice(letters), range(world.notary().count())
            seals = tuple(number for number in every if world.notary().shown(number)[1] == letter)
            return ("take", "ann", letter, seals)
        return source.choice([
            ("send", "ann", "ben", source.choice(["gold", "salt"]), source.randint(1, 9), 0, source.randint(0, 30)),
            ("send", "ann", "ben", home, source.randint(10, 40), source.randint(0, 2), source.randint(5, 30)),
            ("pay", "ann", "ben", home, source.randint(1, 30)), ("claim", "ben", source.randint(0, 5))])

    def deed(self, source, worlds, numbers):
        """Does the same to both worlds, but for the waiting orders, which the second one does not get."""
        side = source.choice(SIDES)
        chain = worlds[0].chain(side)
        word = source.choice(["wait", "wait", "wait", "mine", "work", "restart", "approve"])
        if word == "wait":
            order = self.drawn_order(source, worlds[0], side)
            worlds[0].wait(side, order)
            numbers["waiting"][side].append(order)
        elif word == "mine":
            indexes = range(len(worlds[0].waiting(side)))
            chosen, parent = [index for index in indexes if source.random() < 0.5], source.choice(chain.tips())
            orders = tuple(worlds[0].waiting(side)[index] for index in chosen)
            numbers[side] += 1
            self.assertEqual(worlds[0].mine(side, parent, chosen), numbers[side])
            worlds[1].chain(side).add(numbers[side], parent, orders)
        else:
            guard, number, lost = source.choice(["g1", "g2", "g3"]), source.randint(0, 4), source.randint(0, 2)
            for world in worlds:
                if word == "work":
                    steps = work(world.view(guard, "west"), world.view(guard, "east"), world.machine(guard).journal())
                    world.machine(guard).carry_out(steps, number)
                elif word == "restart":
                    world.restart(guard, lost)
                else:
                    world.approve(guard, 1, SET)

    def told(self, world):
        chains = [world.chain(side) for side in SIDES]
        blocks = [[(number, chain.parent(number), chain.orders(number), chain.receipts(number))
                   for number in chain.numbers()] for chain in chains]
        seals = [world.notary().shown(number) for number in range(world.notary().count())]
        guards = [(name, world.machine(name).journal(), [world.view(name, side).seen() for side in SIDES])
                  for name in world.guards()]
        return blocks, seals, guards

    def test_calm_rounds_are_as_the_point_tells(self):
        events = set()
        for seed in range(25):
            source = random.Random(seed)
            config = made_config(depth=source.randint(1, 3), delay=source.randint(0, 3),
                                 balances=[("ann", "gold", 300), ("ann", "salt", 300)])
            liars = source.choice([[], ["g4"], ["g4", "h2"]])
            worlds = [World(config, liars), World(config, liars)]
            numbers = {"west": 0, "east": 0, "waiting": {"west": [], "east": []}}
            for _ in range(50):
                if source.random() < 0.3:
                    worlds[0].calm_round()
                    self.by_hand(worlds[1], config, liars, numbers)
                    self.assertEqual([worlds[0].waiting(side) for side in SIDES], [[], []])
                else:
                    self.deed(source, worlds, numbers)
                self.assertEqual(self.told(worlds[0]), self.told(worlds[1]))
                self.assertEqual([worlds[0].waiting(side) for side in SIDES],
                                 [numbers["waiting"][side] for side in SIDES])
            for side in SIDES:
                chain = worlds[0].chain(side)
                events.update(event[0] for number in chain.numbers() for event in chain.events(number))
            self.assertEqual(duties(*[worlds[0].view("g1", side) for side in SIDES]),
                             duties(*[worlds[1].view("g1", side) for side in SIDES]))
        self.assertEqual(events, set("sent delivered refused waiting returned rotated".split()))


if __name__ == "__main__":
    unittest.main()
