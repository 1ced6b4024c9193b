"""Point 42: what the rules give, on drawn runs with liars, forks, crashes and letters in any order."""

import random
import unittest

from vaultbridge.audit import open_transfers, shortfalls
from vaultbridge.config import Config
from vaultbridge.errors import BridgeError
from vaultbridge.gateway import next_height
from vaultbridge.guard import bundle_work, cancel, work
from vaultbridge.letters import key
from vaultbridge.relay import ready_orders
from vaultbridge.sets import threshold, total
from vaultbridge.world import World

SIDES = ("west", "east")
PEOPLE = ["ann", "ben", "g1", "g2", "h1", "l1"]
HONEST = ["g1", "g2", "g3", "h1", "h2"]
LIARS = ["l1", "l2", "l3"]
DEEDS = ["order"] * 4 + ["take"] * 2 + ["lie"] * 4 + ["ready"] * 3 + ["mine"] * 9 + ["show"] * 4 + ["work"] * 4 + [
    "bundle", "cancel", "approve", "restart"]


def flawed_set(source, is_live):
    """A set in which the liars miss the threshold, and in a live one the others reach it."""
    guards = [(name, source.randint(1, 3)) for name in source.sample(HONEST, source.randint(2, 4))]
    for name in source.sample(LIARS, source.randint(0, 3)):
        more = tuple(guards) + ((name, source.randint(1, 5)),)
        lying = sum(weight for who, weight in more if who in LIARS)
        if lying < threshold(more) and (not is_live or total(more) - lying >= threshold(more)):
            guards = list(more)
    source.shuffle(guards)
    return tuple(guards)


class Run:
    """A world that is driven by drawn deeds."""

    deeds = DEEDS

    def __init__(self, seed, is_live):
        self.source = random.Random(seed)
        self.is_live = is_live
        self.sets = [self.drawn_set() for _ in range(4)]
        self.config = Config(
            tokens=[("gold", "west", 3, self.draw(6, 20), 6), ("salt", "east", 1, self.draw(8, 20), 6)],
            balances=[(name, token, 200) for name in PEOPLE for token in ("gold", "salt")],
            guards=self.sets[0], depth=self.draw(1, 2, 3), window=self.draw(1, 3), delay=self.draw(0, 2),
            bundle=self.draw(1, 2, 3))
        self.world = World(self.config, LIARS)

    def draw(self, *choices):
        return self.source.choice(choices)

    def drawn_set(self):
        return flawed_set(self.source, self.is_live)

    def honest(self):
        return [name for name in self.world.guards() if name not in LIARS]

    def letters(self):
        notary = self.world.notary()
        return list(dict.fromkeys(notary.shown(number)[1] for number in range(notary.count())))

    def events(self, side, *words):
        chain = self.world.chain(side)
        return [event for number in chain.numbers() for event in chain.events(number) if event[0] in words]

    # the deeds

    def do_order(self):
        side, token = self.draw(*SIDES), self.draw("gold", "salt")
        height = self.world.chain(side).height(self.world.chain(side).best())
        self.world.wait(side, self.draw(
            *[("send", self.draw(*PEOPLE), self.draw(*PEOPLE), token, self.draw(1, 4, 9, 18, 30), self.draw(0, 0, 1),
               height + self.draw(0, 4, 9, 25, 25, 25))] * 5,
            ("pay", self.draw(*PEOPLE), self.draw(*PEOPLE), token, self.draw(1, 9)),
            ("bond", self.draw("g1", "h1", "l1", "l1"), token, self.draw(1, 5)),
            ("claim", "ben", self.draw(0, 1, 2, 3, 4)), self.accusation()))

    def accusation(self):
        """Two seals of one guard, for letters with one key where there are such."""
        notary = self.world.notary()
        guard, found = self.draw("g1", "h1", "l1", "l1"), {}
        for number in range(notary.count()):
            who, letter = notary.shown(number)
            if who == guard:
                found.setdefault(key(letter), []).append(number)
        pairs = [numbers[-2:] for numbers in found.values() if len(numbers) > 1]
        every = [number for numbers in found.values() for number in numbers]
        return ("accuse", "ben", *self.draw(*pairs)) if pairs else ("accuse", "ben", *every[:1], *every[-1:])

    def do_take(self):
        """Somebody brings a letter, with some of its seals or all of them."""
        if not self.letters():
            return
        letter, notary = self.draw(*self.letters()), self.world.notary()
        seals = [number for number in range(notary.count()) if notary.shown(number)[1] == letter]
        if self.draw(True, False, False):
            seals = self.source.sample(seals, self.source.randint(0, len(seals)))
        self.world.wait(self.draw(*SIDES), ("take", self.draw("ann", "ben"), letter, tuple(seals)))

    def do_ready(self):
        """A relayer that has some of the seals brings what is ready for the next block."""
        side, every = self.draw(*SIDES), range(self.world.notary().count())
        seals = [number for number in every if self.source.random() < 0.95]
        chain = self.world.chain(side)
        state = next_height(chain.state(self.draw(chain.best(), *chain.tips())))
        for order in ready_orders(self.config, self.world.notary(), state, "rel", seals):
            self.world.wait(side, order)

    def false_letter(self):
        side = self.draw(*SIDES)
        other = "east" if side == "west" else "west"
        transfer = (self.draw("gold", "salt"), self.draw(1, 5, 9), 0, "ann", "l1", 99)
        told = self.events(side, "sent") + self.events(other, "delivered", "waiting", "refused")
        number, there = self.draw(*told)[1:] if told else (0, transfer)
        kind = self.draw("deliver", "deliver", "return", "return", "cancel", "bundle", "rotate")
        if kind == "rotate":
            return (kind, "both", self.draw(1, 2, 3), self.draw((("l1", 1),), *self.sets))
        if kind == "bundle":
            return (kind, side, self.draw(number, 0), self.draw((transfer,), (there, transfer)))
        return (kind, side, self.draw(number, number, 20), self.draw(there, there, transfer))

    def do_lie(self):
        """A liar, or all of them, seal something false, or something that others sealed."""
        letter = self.draw(self.false_letter(), *self.letters()[-9:])
        if self.source.random() < 0.05 and not self.is_live:
            letter = (self.draw("stop", "resume"), self.draw(*SIDES), self.draw(0, 0, 1), ())
        for name in self.draw(LIARS, LIARS, [self.draw(*LIARS)]):
            self.world.lie(name, letter)

    def do_mine(self):
        side = self.draw(*SIDES)
        chain, many = self.world.chain(side), len(self.world.waiting(side))
        parent = self.draw(chain.best(), chain.best(), *chain.tips(), *chain.tips(), *chain.line(chain.best())[-3:])
        chosen = [index for index in range(max(0, many - 12), many) if self.source.random() < 0.7]
        if self.draw(True, False, False):
            self.source.shuffle(chosen)
        try:
            self.world.mine(side, parent, chosen)
        except BridgeError:
            pass

    def do_show(self):
        """Each guard is shown some of the blocks, in a drawn order."""
        for guard in self.honest():
            for side in SIDES:
                numbers = self.world.chain(side).numbers()
                many = self.draw(len(numbers), self.source.randint(0, len(numbers)))
                for number in self.source.sample(numbers, many):
                    self.world.view(guard, side).show(number)

    def carry_out(self, steps_for):
        """Some guards carry out their steps, and perhaps stop at one of them."""
        for guard in self.source.sample(self.honest(), self.source.randint(1, len(self.honest()))):
            machine = self.world.machine(guard)
            views = [self.world.view(guard, side) for side in SIDES]
            try:
                machine.carry_out(steps_for(views, machine.journal()), self.draw(99, 99, self.source.randint(0, 8)))
            except BridgeError:
                pass

    def do_work(self):
        self.carry_out(lambda views, journal: work(*views, journal))

    def do_bundle(self):
        self.carry_out(lambda views, journal: bundle_work(self.config, *views, journal))

    def do_cancel(self):
        side, number = self.draw(*SIDES), self.draw(0, 1, 2, 3)
        self.carry_out(lambda views, journal: cancel(*views, side, number))

    def do_approve(self):
        number, guards = self.draw(1, 1, 2, 3), self.draw(*self.sets)
        for guard in self.source.sample(self.honest(), self.source.randint(1, len(self.honest()))):
            try:
                self.world.approve(guard, number, guards)
            except BridgeError:
                pass

    def do_restart(self):
        self.world.restart(self.draw(*self.world.guards()), self.draw(0, 1, 3, 99))

    def step(self):
        deed = self.draw(*self.deeds)
        getattr(self, "do_" + deed)()
        return deed


def check_end(case, run):
    """Checks that no transfer is open and that everything adds up; returns the number of the transfers."""
    west, east = [run.world.chain(side).state(run.world.chain(side).best()) for side in SIDES]
    case.assertEqual(open_transfers(west, east), [])
    case.assertEqual((west.waiting(), east.waiting()), ([], []))
    case.assertEqual(west.vault("gold"), 3 * east.circulating("gold"))
    case.assertEqual(east.vault("salt"), west.circulating("salt"))
    return len(west.transfers()) + len(east.transfers())


class PromiseTest(unittest.TestCase):

    def check(self, run):
        chains = {side: run.world.chain(side) for side in SIDES}
        states = {side: [chains[side].state(tip) for tip in chains[side].tips()] for side in SIDES}
        for west in states["west"]:
            for east in states["east"]:
                self.assertEqual(shortfalls(run.config, west, east), [])
        for side, other in (SIDES, SIDES[::-1]):
            for tip in chains[side].tips():
                line = chains[side].line(tip)
                self.check_line([event for number in line for event in chains[side].events(number)], states[other])
            for state in states[side]:
                for token in ("gold", "salt"):
                    if run.config.home(token) == side:
                        self.assertEqual(state.circulating(token) + state.vault(token), 200 * len(PEOPLE))

    def check_line(self, events, others):
        """What was delivered or refused on a line was sent on all tips of the other side, and is not given back."""
        ended = [event for event in events if event[0] in ("delivered", "refused")]
        self.assertEqual(len({event[1] for event in ended}), len(ended))
        for word, number, transfer in ended:
            for state in others:
                self.assertEqual(state.transfers()[number:number + 1], [transfer])
                self.assertFalse(word == "delivered" and state.is_returned(number))

    def check_seals(self, run):
        """No honest guard gave two seals for letters with one key."""
        notary = run.world.notary()
        seals = [notary.shown(number) for number in range(notary.count())]
        sealed = [(guard, key(letter)) for guard, letter in seals if guard not in LIARS]
        self.assertEqual(len(set(sealed)), len(sealed))
        for side in SIDES:
            self.assertLessEqual({event[2][0] for event in run.events(side, "punished")}, set(LIARS))

    def drive(self, seed, is_live, many, counts):
        run = Run(seed, is_live)
        for _ in range(many):
            if run.step() == "mine":
                self.check(run)
        self.check_seals(run)
        for side in SIDES:
            for event in run.events(side, "delivered", "refused", "waiting", "returned", "rotated", "stopped",
                                    "punished"):
                counts[event[0]] = counts.get(event[0], 0) + 1
            counts["tips"] = counts.get("tips", 0) + len(run.world.chain(side).tips()) - 1
        return run

    def test_nothing_is_ever_missing(self):
        counts = {}
        for seed in range(40):
            self.drive(seed, False, 300, counts)
        self.assertEqual(set(counts), set("delivered refused waiting returned rotated stopped punished tips".split()))
        for word in ("delivered", "refused", "returned", "rotated"):
            self.assertGreater(counts[word], 50, word)

    def test_everything_arrives_or_comes_back(self):
        counts = {"sent": 0}
        for seed in range(1000, 1020):
            run = self.drive(seed, True, 200, counts)
            for _ in range(60):
                run.world.calm_round()
            self.check(run)
            self.check_seals(run)
            counts["sent"] += check_end(self, run)
        self.assertGreater(counts["sent"], 200)
        self.assertNotIn("stopped", counts)


if __name__ == "__main__":
    unittest.main()
