"""Points 30 and 52: evidence that an event happened."""

import unittest

from tests.bench import inside, ledger
from tests.test_drawn import grown
from vaultbridge.digests import Digests
from vaultbridge.errors import InvalidArgument, UnknownBlock
from vaultbridge.evidence import event_leaves, evidence
from vaultbridge.tree import check_leaf, leaf_paper, root

SEND = ("send", "ann", "ben", "gold", 3, 0, 9)


def line_of_events(chain, number):
    """A second telling of the events on the line of a block."""
    found = []
    while number is not None:
        found = chain.events(number) + found
        number = chain.parent(number)
    return found


class EvidenceCase(unittest.TestCase):

    def refuses(self, error, function, digests, *arguments):
        before = inside(digests)
        with self.assertRaises(error) as held:
            function(digests, *arguments)
        self.assertIs(type(held.exception), error)
        self.assertEqual(inside(digests), before)


class DrawnEvidenceTest(EvidenceCase):

    def ledgers(self):
        return [chain for seed in range(1100, 1115) for chain in grown(seed, 24).chains.values()]

    def test_leaves_are_the_digests_of_the_events(self):
        words = set()
        for chain in self.ledgers():
            digests, before = Digests(), inside(chain)
            for number in chain.numbers():
                events = line_of_events(chain, number)
                leaves = event_leaves(digests, chain, number)
                self.assertIs(type(leaves), list)
                self.assertEqual([digests.value(leaf) for leaf in leaves], events)
                self.assertEqual([digests.number(event) for event in events], leaves)
                words.update(event[0] for event in events)
            self.assertEqual(inside(chain), before)
        self.assertLessEqual(set("sent delivered refused returned rotated stopped punished".split()), words)

    def test_evidence_is_for_this_event_alone(self):
        many = 0
        for chain in self.ledgers():
            digests, number = Digests(), max(chain.numbers(), key=chain.height)
            events = line_of_events(chain, number)
            others = {event: True for block in chain.numbers() for event in chain.events(block)}
            leaves = event_leaves(digests, chain, number)
            for index, event in enumerate(events):
                pair = evidence(digests, chain, number, index)
                self.assertIs(type(pair), tuple)
                found, paper = pair
                self.assertEqual(found, root(digests, leaves))
                self.assertEqual(paper, leaf_paper(digests, leaves, index))
                for other in others:
                    for place in range(len(events)):
                        self.assertEqual(
                            check_leaf(digests, found, len(events), place, digests.number(other), paper),
                            other == event and place == index)
                many += 1
        self.assertGreater(many, 100)

    def test_wrong_blocks_and_indexes(self):
        for chain in self.ledgers():
            digests = Digests()
            for number in chain.numbers():
                many = len(line_of_events(chain, number))
                for index in (-1, -many, -many - 1, many, many + 1):
                    if index not in range(many):
                        self.refuses(InvalidArgument, evidence, digests, chain, number, index)
            for number in (-100, 500):
                self.refuses(UnknownBlock, event_leaves, digests, chain, number)
                for index in (-1, 0, 99):
                    self.refuses(UnknownBlock, evidence, digests, chain, number, index)
            self.assertEqual(digests.count(), 0)


class EvidenceTest(EvidenceCase):

    def test_by_hand(self):
        chain, digests = ledger(), Digests()
        chain.add(1, 0, (SEND, ("pay", "ann", "ben", "gold", 1), SEND))
        chain.add(2, 1, ())
        chain.add(3, 2, (SEND,))
        chain.add(4, 2, (SEND, SEND))
        transfer = ("gold", 1, 0, "ann", "ben", 9)
        leaves = event_leaves(digests, chain, 3)
        self.assertEqual([digests.value(leaf) for leaf in leaves],
                         [("sent", 0, transfer), ("sent", 1, transfer), ("sent", 2, transfer)])
        found, paper = evidence(digests, chain, 3, 1)
        self.assertEqual(paper, (digests.number(("leaf", leaves[0])), digests.number(("leaf", leaves[2]))))
        self.assertEqual(found, root(digests, leaves))
        self.assertEqual(evidence(digests, chain, 2, 0), evidence(digests, chain, 1, 0))
        self.assertNotEqual(evidence(digests, chain, 4, 0), evidence(digests, chain, 3, 0))

    def test_no_events(self):
        chain, digests = ledger(), Digests()
        self.assertEqual(event_leaves(digests, chain, 0), [])
        for index in (0, -1, 1):
            self.refuses(InvalidArgument, evidence, digests, chain, 0, index)

    def test_lists_belong_to_the_caller(self):
        chain, digests = ledger(), Digests()
        chain.add(1, 0, (SEND,))
        wanted = list(event_leaves(digests, chain, 1))
        event_leaves(digests, chain, 1).clear()
        self.assertEqual(event_leaves(digests, chain, 1), wanted)


if __name__ == "__main__":
    unittest.main()
