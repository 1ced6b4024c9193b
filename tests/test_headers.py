"""Points 13, 14, 56 and 57: headers, and somebody who has nothing else."""

import random
import unittest

from tests.bench import inside, ledger, made_config
from tests.test_drawn import grown
from vaultbridge.digests import Digests
from vaultbridge.errors import ConflictsWithFinal, DuplicateBlock, UnknownBlock, UnknownParent, WrongNumber
from vaultbridge.headers import Headers, header
from vaultbridge.tree import leaf_paper, root

SEND = ("send", "ann", "ben", "gold", 3, 0, 9)


def told_header(digests, chain, number):
    """A second telling of the header of a block."""
    parent = chain.parent(number)
    below = ("none",) if parent is None else told_header(digests, chain, parent)
    events = chain.events(number)
    leaves = [digests.number(event) for event in events]
    return (number, digests.number(below), chain.height(number), root(digests, leaves), len(events))


class ToldHeaders:
    """A second telling of who has headers alone: a list, from which all else is computed each time."""

    def __init__(self, depth, digests, first):
        self.depth, self.digests, self.held = depth, digests, [first]

    def below(self, found):
        """The headers that one lies above."""
        line = []
        while found is not None:
            parents = [other for other in self.held if self.digests.number(other) == found[1]]
            found = parents[0] if parents else None
            line += parents
        return line

    def final(self):
        deep = [low for high in self.held for low in self.below(high) if high[2] - low[2] >= self.depth]
        return max(deep + self.held[:1], key=lambda found: found[2])

    def error_for(self, new):
        """The error that a header is refused with, or None."""
        if new in self.held:
            return DuplicateBlock
        parents = [found for found in self.held if self.digests.number(found) == new[1]]
        if not parents:
            return UnknownParent
        if new[2] != parents[0][2] + 1:
            return WrongNumber
        if self.final() not in [parents[0]] + self.below(parents[0]):
            return ConflictsWithFinal
        return None


class HeaderTest(unittest.TestCase):

    def test_by_hand(self):
        chain, digests = ledger(), Digests()
        chain.add(7, 0, (SEND, ("pay", "ann", "ben", "gold", 1), SEND))
        chain.add(-2, 7, ())
        number = digests.number
        first = header(digests, chain, 0)
        self.assertEqual(first, (0, number(("none",)), 0, number(("empty",)), 0))
        second = header(digests, chain, 7)
        leaves = [number(event) for event in chain.events(7)]
        self.assertEqual(second, (7, number(first), 1, root(digests, leaves), 2))
        self.assertEqual(header(digests, chain, -2), (-2, number(second), 2, number(("empty",)), 0))
        self.assertIs(type(second), tuple)

    def test_drawn_ledgers(self):
        for seed in range(1400, 1412):
            for chain in grown(seed, 25).chains.values():
                digests, before = Digests(), inside(chain)
                found = {number: header(digests, chain, number) for number in chain.numbers()}
                self.assertEqual(found, {number: told_header(digests, chain, number) for number in chain.numbers()})
                self.assertEqual(len({digests.number(one) for one in found.values()}), len(found))
                self.assertEqual(inside(chain), before)

    def test_unknown_blocks(self):
        chain, digests = ledger(), Digests()
        chain.add(7, 0, (SEND,))
        for number in (1, -1, 8, 10 ** 30):
            with self.assertRaises(UnknownBlock) as held:
                header(digests, chain, number)
            self.assertIs(type(held.exception), UnknownBlock)
            self.assertEqual(digests.count(), 0)

    def test_a_long_line(self):
        chain, digests = ledger(), Digests()
        for number in range(1, 1500):
            chain.add(number, number - 1, ())
        found = header(digests, chain, 1499)
        self.assertEqual(found[2], 1499)
        self.assertEqual(digests.value(found[1]), header(digests, chain, 1498))


class HeadersCase(unittest.TestCase):

    def begin(self, chain, depth):
        self.chain, self.digests, self.depth = chain, Digests(), depth
        self.real = [header(self.digests, chain, number) for number in chain.numbers()]
        first = header(self.digests, chain, 0)
        self.headers = Headers(made_config(depth=depth), self.digests, first)
        self.told = ToldHeaders(depth, self.digests, first)

    def mark(self, found):
        return self.digests.number(found)

    def take(self, new):
        """Takes a header in, or checks that it is refused; returns the error."""
        error = self.told.error_for(new)
        before = inside(self.headers)
        if error is None:
            self.assertIsNone(self.headers.take(new))
            self.told.held.append(new)
        else:
            with self.assertRaises(error) as held:
                self.headers.take(new)
            self.assertIs(type(held.exception), error)
            # the table of digests is among what it holds
            self.assertEqual(inside(self.headers), before)
        self.assertEqual(self.headers.final(), self.mark(self.told.final()))
        self.assertEqual(self.headers.marks(), sorted(self.mark(found) for found in self.told.held))
        return error


class DrawnHeadersTest(HeadersCase):

    def changed(self, source, found):
        """A header of which one part is changed, most times the height or the parent."""
        rows = list(found)
        part = source.choice([0, 1, 1, 1, 2, 2, 2, 3, 4])
        if part == 1:
            rows[1] = source.choice([self.mark(source.choice(self.told.held)), self.mark(source.choice(self.real)), -1,
                                     self.digests.number(("none",)), 10 ** 9])
        else:
            rows[part] += source.choice([1, -1, 2, -2])
        return tuple(rows)

    def on_held(self, source):
        """A header on one that is held, with a height that most times is right."""
        below = source.choice(self.told.held)
        return (source.randint(-3, 30), self.mark(below), below[2] + source.choice([1, 1, 1, 1, 0, 2]),
                self.digests.number(("empty",)), 0)

    def test_any_order_and_changed_ones(self):
        counts = {}
        for seed in range(1500, 1530):
            bridge = grown(seed, 24)
            for side, chain in bridge.chains.items():
                self.begin(chain, bridge.config.depth())
                source = random.Random(seed)
                for _ in range(70):
                    new = source.choice(self.real)
                    deed = source.choice(["real"] * 5 + ["changed", "on held"])
                    if deed == "changed":
                        new = self.changed(source, new)
                    elif deed == "on held":
                        new = self.on_held(source)
                    error = self.take(new)
                    counts[error] = counts.get(error, 0) + 1
        self.assertEqual(set(counts), {None, DuplicateBlock, UnknownParent, WrongNumber, ConflictsWithFinal})
        self.assertGreater(min(counts.values()), 50)

    def test_the_order_of_the_ledger(self):
        """Handed in as the ledger took the blocks, all are taken in, and what is final is what the ledger says."""
        for seed in range(1530, 1545):
            bridge = grown(seed, 30)
            for side, chain in bridge.chains.items():
                self.begin(chain, bridge.config.depth())
                again = ledger(side, bridge.config, bridge.notary)
                for block in bridge.blocks[side]:
                    again.add(*block)
                    self.assertIsNone(self.take(header(self.digests, chain, block[0])))
                    self.assertEqual(self.headers.final(), self.mark(header(self.digests, chain, again.final())))

    def test_accepting(self):
        """Of all events, indexes and papers, exactly those that belong together, in blocks on the final line."""
        counts = {True: 0, False: 0}
        for seed in range(1545, 1557):
            bridge = grown(seed, 30)
            for side, chain in bridge.chains.items():
                self.begin(chain, bridge.config.depth())
                for block in bridge.blocks[side]:
                    self.take(header(self.digests, chain, block[0]))
                self.check_accepting(chain, counts)
        self.assertGreater(counts[True], 100)
        self.assertGreater(counts[False], 10000)

    def check_accepting(self, chain, counts):
        events = list(dict.fromkeys(event for number in chain.numbers() for event in chain.events(number)))
        final = chain.line(chain.final())
        papers = {number: self.papers(chain, number) for number in chain.numbers()}
        other_papers = list({paper for found in papers.values() for paper in found})[:5] + [(), (-1,), (0, 0)]
        for number in chain.numbers():
            mark, here = self.mark(header(self.digests, chain, number)), chain.events(number)
            for index in range(-1, len(here) + 1):
                for event in events + [("sent", 99, ()), ()]:
                    for paper in papers[number] + other_papers:
                        wanted = (number in final and 0 <= index < len(here) and here[index] == event
                                  and paper == papers[number][index])
                        found = self.headers.accepts(mark, index, event, paper)
                        self.assertIs(found, wanted)
                        counts[found] += 1

    def papers(self, chain, number):
        leaves = [self.digests.number(event) for event in chain.events(number)]
        return [leaf_paper(self.digests, leaves, index) for index in range(len(leaves))]


class HeadersTest(HeadersCase):

    def setUp(self):
        """Two branches on block 1: 2, 3, 4, 5 and 12, 13."""
        chain = ledger(config=made_config(depth=9))
        for number, parent in ((1, 0), (2, 1), (3, 2), (4, 3), (5, 4), (12, 1), (13, 12)):
            chain.add(number, parent, (SEND,) * (number % 3))
        self.begin(chain, 2)

    def header(self, number):
        return header(self.digests, self.chain, number)

    def test_by_hand(self):
        first = self.mark(self.header(0))
        self.assertEqual((self.headers.final(), self.headers.marks()), (first, [first]))
        self.assertEqual(self.take(self.header(0)), DuplicateBlock)
        self.assertEqual(self.take(self.header(2)), UnknownParent)
        for number in (1, 2, 12):
            self.assertIsNone(self.take(self.header(number)))
            self.assertEqual(self.headers.final(), first)
        self.assertEqual(self.take(self.header(12)), DuplicateBlock)
        self.assertIsNone(self.take(self.header(3)))
        self.assertEqual(self.headers.final(), self.mark(self.header(1)))
        self.assertIsNone(self.take(self.header(4)))
        self.assertEqual(self.headers.final(), self.mark(self.header(2)))
        self.assertEqual(self.take(self.header(13)), ConflictsWithFinal)
        self.assertIsNone(self.take(self.header(5)))

    def test_which_error_comes_first(self):
        for number in (1, 2, 12, 3, 4):
            self.take(self.header(number))
        number, parent, height, events, count = self.header(13)
        self.assertEqual(self.take((number, parent, height, events, count)), ConflictsWithFinal)
        self.assertEqual(self.take((number, parent, height + 1, events, count)), WrongNumber)
        self.assertEqual(self.take((number, -1, height + 1, events, count)), UnknownParent)
        self.assertEqual(self.take(self.header(12)), DuplicateBlock)
        self.assertEqual(self.take(self.header(1)), DuplicateBlock)

    def test_a_header_is_held_by_all_of_its_parts(self):
        """Another header with the number of a block that is held is another header."""
        for number in (1, 2):
            self.take(self.header(number))
        number, parent, height, events, count = self.header(2)
        for other in ((number, parent, height, events, count + 1), (number, parent, height, -1, count),
                      (number, self.mark(self.header(2)), height + 1, events, count), (0, parent, height, events, count)):
            self.assertIsNone(self.take(other))

    def accepts(self, number, index, event, paper=()):
        return self.headers.accepts(self.mark(self.header(number)), index, event, paper)

    def test_accepting(self):
        """Block 1 has one event and block 12 none; block 2 has two."""
        sent = self.chain.events(1)[0]
        two = self.chain.events(2)
        leaves = [self.digests.number(event) for event in two]
        papers = [leaf_paper(self.digests, leaves, index) for index in (0, 1)]
        self.take(self.header(1))
        self.take(self.header(2))
        # held, but not final
        self.assertIs(self.accepts(1, 0, sent), False)
        self.take(self.header(3))
        self.assertIs(self.accepts(1, 0, sent), True)
        self.assertFalse(self.accepts(2, 0, two[0], papers[0]))
        # not held
        self.assertFalse(self.accepts(4, 0, self.chain.events(4)[0]))
        self.take(self.header(4))
        for index, event, paper in ((0, two[0], papers[0]), (1, two[1], papers[1])):
            self.assertTrue(self.accepts(2, index, event, paper))
            self.assertFalse(self.accepts(2, 1 - index, event, paper))
            self.assertFalse(self.accepts(2, index, two[1 - index], paper))
            self.assertFalse(self.accepts(2, index, event, papers[1 - index]))
            self.assertFalse(self.accepts(2, index, event, ()))
            self.assertFalse(self.accepts(2, index, event, paper + paper))
        self.assertTrue(self.accepts(1, 0, sent))
        for index in (-1, 1, 2, 10 ** 30):
            self.assertFalse(self.accepts(1, index, sent))
        for number in (0, 12):
            for index in (-1, 0, 1):
                self.assertFalse(self.accepts(number, index, sent))
        for mark in (-1, -2, self.digests.count(), 10 ** 30, self.digests.number(("none",))):
            self.assertFalse(self.headers.accepts(mark, 0, sent, ()))
        for event in (("sent", 5, ()), (), ("sent",), (sent,)):
            self.assertFalse(self.accepts(1, 0, event))

    def test_a_root_alone_does_not_tell_how_many_there_are(self):
        """With a count that is greater by one, an index beyond the end would be accepted: the count is in the header."""
        for number in (1, 2, 3, 4):
            self.take(self.header(number))
        two = self.chain.events(2)
        first = self.digests.number(("leaf", self.digests.number(two[0])))
        self.assertTrue(self.accepts(2, 1, two[1], (first,)))
        self.assertFalse(self.accepts(2, 2, two[1], (first,)))

    def test_lists_belong_to_the_caller(self):
        self.take(self.header(1))
        wanted = self.headers.marks()
        self.headers.marks().clear()
        self.headers.marks().append(5)
        self.assertEqual(self.headers.marks(), wanted)


if __name__ == "__main__":
    unittest.main()
