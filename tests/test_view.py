"""Point 16: views."""

import random
import unittest

from tests.bench import inside, ledger, made_config
from tests.test_chain import Tree
from vaultbridge.errors import BridgeError, UnknownBlock
from vaultbridge.view import View


def visible(chain, numbers):
    """The blocks that were shown and do not wait: those whose whole line was shown."""
    return [number for number in chain.numbers() if set(chain.line(number)) <= set(numbers) | {0}]


def grow(chain, source, number):
    """Adds a block, with a transfer in it, on a drawn parent, if the ledger takes it."""
    parent = source.choice([chain.best(), chain.best(), source.choice(chain.numbers())])
    try:
        chain.add(number, parent, (("send", "ann", f"to {number}", "gold", 3, 0, number),))
    except BridgeError:
        pass


class ViewTest(unittest.TestCase):

    def check(self, view, chain, numbers, depth):
        seen = visible(chain, numbers)
        self.assertEqual(view.seen(), seen)
        tree = Tree(depth)
        tree.parents = {number: chain.parent(number) for number in seen}
        self.assertEqual(view.final(), tree.final())
        self.assertIn(view.final(), chain.line(chain.final()))
        wanted = [event for number in tree.line(tree.final()) for event in chain.events(number)]
        self.assertEqual(view.final_events(), wanted)

    def test_drawn_views(self):
        for depth in (1, 2, 3):
            source = random.Random(160 + depth)
            for _ in range(15):
                chain = ledger(config=made_config(depth=depth, balances=[("ann", "gold", 900)]))
                view, numbers = View(chain), []
                for number in source.sample(range(1, 99), 30):
                    grow(chain, source, number)
                    for _ in range(source.randint(0, 2)):
                        numbers.append(source.choice(chain.numbers()))
                        self.assertIsNone(view.show(numbers[-1]))
                    self.check(view, chain, numbers, depth)
                for number in source.sample(chain.numbers(), len(chain.numbers())):
                    view.show(number)
                    numbers.append(number)
                    self.check(view, chain, numbers, depth)
                self.assertEqual((view.seen(), view.final()), (chain.numbers(), chain.final()))

    def test_a_new_view(self):
        chain = ledger()
        for number in range(1, 6):
            chain.add(number, number - 1, ())
        view = View(chain)
        self.assertEqual((view.seen(), view.final(), view.final_events()), ([0], 0, []))

    def test_blocks_wait_for_their_parents(self):
        chain = ledger(config=made_config(depth=1))
        for number in range(1, 5):
            chain.add(number, number - 1, (("send", "ann", "out", "gold", 3, 0, number),))
        view = View(chain)
        for number in (4, 2, 3):
            view.show(number)
            self.assertEqual((view.seen(), view.final()), ([0], 0))
        view.show(1)
        self.assertEqual((view.seen(), view.final()), ([0, 1, 2, 3, 4], 3))
        self.assertEqual([event[1] for event in view.final_events()], [0, 1, 2])

    def test_many_blocks_in_descending_order(self):
        chain = ledger()
        for number in range(1, 1500):
            chain.add(number, number - 1, ())
        view = View(chain)
        for number in range(1499, 0, -1):
            view.show(number)
        self.assertEqual((len(view.seen()), view.final()), (1500, 1497))

    def test_showing_again_changes_nothing(self):
        chain = ledger()
        for number, parent in ((1, 0), (2, 1), (4, 0), (5, 4), (3, 2)):
            chain.add(number, parent, ())
        view = View(chain)
        for number in (1, 2, 5):
            view.show(number)
        before = inside(view)
        for number in (5, 0, 2, 1, 5):
            view.show(number)
        self.assertEqual(inside(view), before)

    def test_unknown_blocks(self):
        chain = ledger()
        chain.add(1, 0, ())
        view = View(chain)
        before = inside(view)
        for number in (2, -1):
            with self.assertRaises(UnknownBlock):
                view.show(number)
        self.assertEqual(inside(view), before)
        chain.add(2, 1, ())
        view.show(2)
        view.show(1)
        self.assertEqual(view.seen(), [0, 1, 2])

    def test_views_are_apart_and_lists_belong_to_the_caller(self):
        chain = ledger(config=made_config(depth=1))
        chain.add(1, 0, (("send", "ann", "out", "gold", 3, 0, 9),))
        chain.add(2, 1, ())
        one, other = View(chain), View(chain)
        one.show(1)
        one.show(2)
        self.assertEqual((one.final(), other.final(), other.seen()), (1, 0, [0]))
        before = inside(one)
        one.seen().clear()
        one.final_events().clear()
        self.assertEqual(inside(one), before)
        self.assertEqual(one.final_events(), [("sent", 0, ("gold", 1, 0, "ann", "out", 9))])


if __name__ == "__main__":
    unittest.main()
