"""Points 11 to 30 on drawn ledgers: against a second telling of the points, and in another order of the blocks."""

import random
import unittest

from tests.bench import ACCOUNTS, inside, made_config, shown
from tests.model import Model
from vaultbridge.chain import Chain
from vaultbridge.errors import ConflictsWithFinal
from vaultbridge.gateway import outcome
from vaultbridge.notary import Notary
from vaultbridge.view import View

SETS = [(("g1", 1), ("g2", 1), ("g3", 1), ("g4", 1)), (("g2", 2), ("h1", 3)), (("h1", 1), ("h2", 2), ("g1", 2)),
        (("h2", 7),)]
PEOPLE = ["ann", "ben", "cat", "out", "g1", "h1"]
TOKENS = ["gold"] * 5 + ["salt"] * 3 + ["iron"]
NUMBERS = range(-1, 25)
SIDES = ("west", "east")

WANTED = {
    "pay": "done InvalidOrder UnknownToken NotEnoughBalance",
    "send": "done Stopped UnknownToken InvalidOrder NotEnoughBalance",
    "bond": "done InvalidOrder UnknownToken NotEnoughBalance",
    "unbond": "done InvalidOrder UnknownToken StillOnDuty NotEnoughBalance",
    "accuse": "done InvalidOrder NothingBonded",
    "claim": "done Stopped UnknownTransfer TooEarly LimitReached NotEnoughBalance",
    "deliver": "done Stopped WrongSide NotEnoughWeight UnknownToken AlreadyTaken LimitReached NotEnoughBalance",
    "bundle": "done Stopped WrongSide NotEnoughWeight UnknownToken AlreadyTaken LimitReached NotEnoughBalance",
    "cancel": "done WrongSide NotEnoughWeight UnknownTransfer",
    "return": "done Stopped WrongSide NotEnoughWeight UnknownTransfer AlreadyTaken NotEnoughBalance",
    "rotate": "done WrongNumber NotEnoughWeight",
    "stop": "done WrongSide WrongNumber NotEnoughWeight",
    "resume": "done WrongSide WrongNumber NotEnoughWeight",
    "what": "InvalidOrder",
}


class Bridge:
    """Two ledgers that grow by drawn blocks."""

    def __init__(self, seed):
        self.source = random.Random(seed)
        self.config = made_config(
            depth=self.source.randint(1, 3), window=self.draw(1, 2, 5, 9), delay=self.source.randint(0, 3),
            tokens=[("gold", "west", 3, 7, 5), ("salt", "east", 1, 6, 5)],
            balances=[(name, token, 40) for name in PEOPLE for token in ("gold", "salt")])
        self.notary = Notary()
        self.chains = {side: Chain(side, self.config, self.notary) for side in SIDES}
        self.blocks = {side: [] for side in SIDES}

    def draw(self, *choices):
        return self.source.choice(choices)

    def seals(self, letter, state):
        """Seals for the letter, some others among them."""
        guards = self.draw(*[state.guards(state.epoch())] * 9, *SETS)
        found = [self.notary.seal(name, letter) for name, _ in guards if self.source.random() < 0.9]
        if self.source.random() < 0.3:
            found += [self.source.randrange(self.notary.count()) for _ in range(4) if self.notary.count()]
        self.source.shuffle(found)
        return tuple(found)

    def transfer(self):
        units = self.draw(1, 2, 3, 4, 4, 5, 9)
        return (self.draw(*TOKENS), units, self.source.randint(0, units), self.draw(*PEOPLE), self.draw(*PEOPLE),
                self.source.randint(0, 40))

    def told(self, chain, *words):
        """Events of these kinds on the line of the best tip, some of which are no more than possible."""
        line = chain.line(self.draw(*chain.numbers()))
        return [event for number in line for event in chain.events(number) if event[0] in words]

    def letter(self, side, state):
        """A letter for the gateway of a side, true or not."""
        other = "east" if side == "west" else "west"
        here, there = self.chains[side], self.chains[other]
        kind = self.draw(*["deliver"] * 4, *["bundle"] * 4, "cancel", "cancel", *["return"] * 4, "rotate", "stop",
                         *["resume"] * (4 if state.is_stopped() else 1))
        if kind == "rotate":
            return (kind, "both", state.epoch() + self.draw(1, 1, 1, 2), self.draw(*SETS))
        if kind in ("stop", "resume"):
            turn = state.stops() - (1 if kind == "resume" else 0)
            return (kind, self.draw(*[side] * 9, other), max(0, turn + self.draw(0, 0, 0, 0, 1, -1)), ())
        if kind in ("deliver", "bundle"):
            events, right = self.told(there, "sent"), other
        elif kind == "cancel":
            events, right = self.told(here, "waiting"), other
        else:
            events, right = self.told(there, "refused") + self.told(here, "sent"), side
        number, transfer = self.draw(*events)[1:] if events and self.draw(True, True, False) else (
            self.source.randint(0, 12), self.transfer())
        if kind == "bundle":
            sent = {event[1]: event[2] for event in events}
            transfer = tuple(sent.get(number + index, self.transfer()) for index in range(self.source.randint(1, 3)))
        return (kind, self.draw(*[right] * 9, side, other), number, transfer)

    def accusation(self):
        """Two seals, most times of one guard and for letters with one key."""
        if not self.notary.count() or self.draw(True, True, False):
            letters = [("stop", "west", 50, ()), ("rotate", "both", 60, SETS[0]), ("rotate", "both", 60, SETS[1]),
                       ("deliver", "west", 70, self.transfer()), ("deliver", "west", 70, self.transfer())]
            guard = self.draw("g1", "ann", "ben", "cat")
            pair = self.draw(letters[1:3], letters[3:], letters[:2])
            return tuple(self.notary.seal(guard, letter) for letter in pair)
        return self.source.randrange(self.notary.count()), self.source.randrange(self.notary.count())

    def order(self, side, state):
        word = self.draw("pay", *["send"] * 4, "bond", "bond", "unbond", "claim", "claim", "accuse", "accuse", "what",
                         *["take"] * 12)
        name, other, token = self.draw(*PEOPLE), self.draw(*PEOPLE), self.draw(*TOKENS)
        amount = self.draw(0, -1, 1, 2, 3, 3, 4, 6, 9, 18, 60)
        if word == "pay":
            return (word, name, other, token, amount)
        if word == "send":
            return (word, name, other, token, amount, self.draw(0, 0, 1, 2, -1), self.draw(0, 5, 9, 20, 40, -1))
        if word in ("bond", "unbond"):
            return (word, self.draw(name, *state.bonded_guards("gold")), token, self.draw(0, 1, 2, 3, 50))
        if word == "claim":
            return (word, name, self.draw(self.source.randint(-1, 9), *state.waiting() * 3))
        if word == "accuse":
            return (word, name, *self.accusation())
        if word == "what":
            return self.draw((), ("what", 1), ("pay", "ann"), (7, 7, 7), ("take", "ann", 7, (), 7))
        letter = self.letter(side, state)
        return (word, name, letter, self.seals(letter, state))

    def grow(self):
        """Adds a drawn block to one of the ledgers, if it takes it."""
        side = self.draw(*SIDES)
        chain = self.chains[side]
        parent = self.draw(chain.best(), chain.best(), chain.best(), *chain.tips(), self.draw(*chain.numbers()))
        number = self.draw(*[number for number in range(-9, 200) if number not in chain.numbers()])
        orders = tuple(self.order(side, chain.state(parent)) for _ in range(self.source.randint(0, 5)))
        try:
            chain.add(number, parent, orders)
        except ConflictsWithFinal:
            return
        self.blocks[side].append((number, parent, orders))


def grown(seed, many):
    """A bridge to which drawn blocks were added, as far as its ledgers took them."""
    bridge = Bridge(seed)
    for _ in range(many):
        bridge.grow()
    return bridge


def word_of(order):
    """What an order is counted as: its word, or the kind of its letter."""
    if order[:1] == ("take",) and len(order) == 4:
        return order[2][0]
    return order[0] if order and order[0] in WANTED and len(order) > 2 else "what"


class DrawnTest(unittest.TestCase):

    def check_block(self, bridge, chain, model, number, found):
        """Carries the orders of a block out on the model of its parent and compares."""
        model.height += 1
        receipts, events = [], []
        for order in chain.orders(number):
            outcome_word, told = model.do(order)
            receipts.append(outcome_word)
            events.extend(told)
            found.add((word_of(order), outcome_word))
            found.update(event[0] for event in told)
        self.assertEqual(chain.receipts(number), receipts)
        self.assertEqual(chain.events(number), events)
        self.assertEqual(shown(bridge.config, chain.state(number), NUMBERS), model.told(NUMBERS, ACCOUNTS))

    def check_line(self, bridge, side, found):
        """Compares the blocks of the line of a drawn tip."""
        chain = bridge.chains[side]
        model = Model(bridge.config, bridge.notary, side)
        for number in chain.line(max(chain.numbers(), key=chain.height))[1:]:
            self.check_block(bridge, chain, model, number, found)
        model = Model(bridge.config, bridge.notary, side)
        for number in chain.line(bridge.draw(*chain.numbers()))[1:]:
            self.check_block(bridge, chain, model, number, found)

    def test_ledgers_are_as_a_second_telling_says(self):
        found = set()
        for seed in range(80):
            bridge = grown(seed, 40)
            for side in SIDES:
                self.check_line(bridge, side, found)
        wanted = {(word, outcome_word) for word in WANTED for outcome_word in WANTED[word].split()}
        self.assertEqual({pair for pair in found if isinstance(pair, tuple)}, wanted)
        self.assertEqual({word for word in found if isinstance(word, str)}, set(
            "sent delivered refused waiting returned rotated stopped resumed punished".split()))

    def test_outcomes_one_by_one(self):
        for seed in range(100, 112):
            bridge = grown(seed, 30)
            for side in SIDES:
                chain = bridge.chains[side]
                state = chain.state(chain.best())
                for _ in range(60):
                    state = self.check_outcome(bridge, state, bridge.order(side, state))

    def check_outcome(self, bridge, state, order):
        """The state that is handed in stays as it is, and asking again gives the same."""
        before = inside(state)
        found = []
        for _ in range(2):
            try:
                after, events = outcome(bridge.config, bridge.notary, state, order)
                found.append((inside(after), events))
            except ValueError as error:
                after = state
                found.append(type(error))
            self.assertEqual(inside(state), before)
        self.assertEqual(found[0], found[1])
        return after


class SecondLedgerTest(unittest.TestCase):

    def by_height(self, bridge, side):
        """The blocks in ascending order of their heights, drawn among equal ones; such an order is always taken."""
        chain = bridge.chains[side]
        return sorted(bridge.blocks[side], key=lambda block: (chain.height(block[0]), bridge.source.random()))

    def drawn(self, bridge, side):
        """The blocks in a drawn order in which parents come first."""
        left, known, found = list(bridge.blocks[side]), [0], []
        while left:
            block = bridge.draw(*[block for block in left if block[1] in known])
            left.remove(block)
            known.append(block[0])
            found.append(block)
        return found

    def told(self, config, chain):
        return {
            "numbers": chain.numbers(), "final": chain.final(), "tips": chain.tips(), "best": chain.best(),
            "blocks": [(chain.parent(number), chain.orders(number), chain.receipts(number), chain.events(number),
                        inside(chain.state(number)), shown(config, chain.state(number))) for number in chain.numbers()]}

    def again(self, bridge, side, blocks):
        """A second ledger with the blocks, or None if it refuses one that lies on a branch that is dead by then."""
        chain = Chain(side, bridge.config, bridge.notary)
        for block in blocks:
            try:
                chain.add(*block)
            except ConflictsWithFinal:
                return None
        return chain

    def test_another_order_of_the_blocks(self):
        taken = 0
        for seed in range(200, 230):
            bridge = grown(seed, 30)
            for side in SIDES:
                wanted = self.told(bridge.config, bridge.chains[side])
                second = self.again(bridge, side, self.by_height(bridge, side))
                self.assertEqual(self.told(bridge.config, second), wanted)
                for _ in range(4):
                    second = self.again(bridge, side, self.drawn(bridge, side))
                    if second is not None:
                        taken += 1
                        self.assertEqual(self.told(bridge.config, second), wanted)
        self.assertGreater(taken, 20)


class CallerTest(unittest.TestCase):

    def test_lists_and_states_that_callers_get_change_nothing(self):
        for seed in range(300, 306):
            bridge = grown(seed, 30)
            for chain in bridge.chains.values():
                view = View(chain)
                for number in chain.numbers():
                    view.show(number)
                drawn = [(number, bridge.order(chain.state(number).side(), chain.state(number)))
                         for number in chain.numbers() * 3]
                before = inside(chain), inside(view)
                self.spoil(chain, view, bridge, drawn)
                self.assertEqual((inside(chain), inside(view)), before)

    def spoil(self, chain, view, bridge, drawn):
        for found in (chain.numbers(), chain.tips(), view.seen(), view.final_events()):
            found.append("spoilt")
            found.reverse()
        for number, order in drawn:
            state = chain.state(number)
            for found in (chain.line(number), chain.receipts(number), chain.events(number), state.transfers(),
                          state.waiting(), state.bonded_guards("gold")):
                found.append("spoilt")
                found.reverse()
            try:
                outcome(bridge.config, bridge.notary, state, order)
            except ValueError:
                pass


if __name__ == "__main__":
    unittest.main()
