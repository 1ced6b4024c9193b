"""Points 49 to 51: roots, leaf papers and growth papers."""

import random
import unittest

from tests.bench import inside
from vaultbridge.digests import Digests
from vaultbridge.errors import InvalidArgument
from vaultbridge.tree import check_growth, check_leaf, growth_paper, leaf_paper, root

SIZES = range(21)


def left_part(many):
    """The greatest power of two that is less than a number, told once more."""
    return max(2 ** power for power in range(300) if 2 ** power < many)


def told_tree(leaves):
    """A second telling of the root, with values in the place of their digests."""
    if len(leaves) < 2:
        return ("leaf", leaves[0]) if leaves else ("empty",)
    left = left_part(len(leaves))
    return ("node", told_tree(leaves[:left]), told_tree(leaves[left:]))


def told_paper(leaves, index):
    """A second telling of the leaf paper, with values in the place of their digests."""
    if len(leaves) == 1:
        return []
    left = left_part(len(leaves))
    before, behind = leaves[:left], leaves[left:]
    if index < left:
        return told_paper(before, index) + [told_tree(behind)]
    return told_paper(behind, index - left) + [told_tree(before)]


def told_rows(old, new):
    """A second telling of the places of a growth paper: around each position the widest part that fits."""
    found = []
    for position in range(new):
        fitting = []
        for size in [2 ** power for power in range(8)]:
            start = position // size * size
            if start + size <= old or start >= old and start + size <= new:
                fitting.append((size, start))
        size, start = max(fitting)
        if (start, size) not in found:
            found.append((start, size))
    return found


def opened(digests, number):
    """What a root is made of, with values in the place of their digests."""
    value = digests.value(number)
    if value[0] == "node":
        return ("node", opened(digests, value[1]), opened(digests, value[2]))
    return value


def drawn_leaves(source, many, kinds=None):
    """So many leaves, often the same ones."""
    return [source.randint(-1, kinds or source.choice([0, 2, 9, 10 ** 30])) for _ in range(many)]


class TreeCase(unittest.TestCase):

    def setUp(self):
        self.digests = Digests()
        self.source = random.Random(49)
        self.roots = {}

    def root(self, leaves):
        """The root of a list, which is computed once."""
        if tuple(leaves) not in self.roots:
            self.roots[tuple(leaves)] = root(self.digests, leaves)
        return self.roots[tuple(leaves)]

    def refuses(self, function, *arguments):
        before = inside(self.digests)
        with self.assertRaises(InvalidArgument) as held:
            function(self.digests, *arguments)
        self.assertIs(type(held.exception), InvalidArgument)
        self.assertEqual(inside(self.digests), before)


class RootTest(TreeCase):

    def test_by_hand(self):
        number = self.digests.number
        empty, one, two, three = number(("empty",)), number(("leaf", 1)), number(("leaf", 2)), number(("leaf", 3))
        self.assertEqual(root(self.digests, []), empty)
        self.assertEqual(root(self.digests, [2]), two)
        pair = number(("node", one, two))
        self.assertEqual(root(self.digests, [1, 2]), pair)
        self.assertEqual(root(self.digests, [1, 2, 3]), number(("node", pair, three)))
        four = number(("node", pair, number(("node", three, one))))
        self.assertEqual(root(self.digests, [1, 2, 3, 1]), four)
        self.assertEqual(root(self.digests, [1, 2, 3, 1, 2]), number(("node", four, two)))

    def test_each_size(self):
        for many in SIZES:
            for _ in range(10):
                leaves = drawn_leaves(self.source, many)
                before = list(leaves)
                found = root(self.digests, leaves)
                self.assertEqual(leaves, before)
                self.assertEqual(opened(self.digests, found), told_tree(leaves))
                self.assertEqual(root(self.digests, before), found)

    def test_different_lists_have_different_roots(self):
        for many in SIZES:
            leaves = drawn_leaves(self.source, many)
            others = [leaves + [0], leaves + leaves[-1:] * 2 + [7], [3] + leaves, leaves[:-1] + [99, 99]]
            if leaves:
                others += [leaves[:-1], leaves[1:], leaves + leaves[-1:]]
            for index in range(many):
                others.append(leaves[:index] + [leaves[index] + 1] + leaves[index + 1:])
            for other in others:
                self.assertEqual(root(self.digests, other) == root(self.digests, leaves), other == leaves)

    def test_drawn_lists(self):
        known = {}
        for _ in range(2000):
            leaves = tuple(drawn_leaves(self.source, self.source.randint(0, 6), 1))
            found = root(self.digests, list(leaves))
            self.assertEqual(known.setdefault(found, leaves), leaves)
        self.assertGreater(len(known), 300)

    def test_a_leaf_may_be_the_digest_of_a_root(self):
        inner = root(self.digests, [1, 2])
        leaf = self.digests.number(("leaf", 1))
        roots = [root(self.digests, leaves) for leaves in ([inner], [1, 2], [leaf], [leaf, 2], [1], [])]
        self.assertEqual(len(set(roots)), 6)


class LeafPaperTest(TreeCase):

    def test_by_hand(self):
        number = self.digests.number
        self.assertEqual(leaf_paper(self.digests, [5], 0), ())
        one, two, three = number(("leaf", 1)), number(("leaf", 2)), number(("leaf", 3))
        pair = number(("node", one, two))
        self.assertEqual(leaf_paper(self.digests, [1, 2, 3], 0), (two, three))
        self.assertEqual(leaf_paper(self.digests, [1, 2, 3], 1), (one, three))
        self.assertEqual(leaf_paper(self.digests, [1, 2, 3], 2), (pair,))

    def test_each_size_and_index(self):
        for many in SIZES:
            leaves = drawn_leaves(self.source, many)
            before = list(leaves)
            for index in range(many):
                paper = leaf_paper(self.digests, leaves, index)
                self.assertIs(type(paper), tuple)
                self.assertEqual([opened(self.digests, part) for part in paper], told_paper(leaves, index))
            self.assertEqual(leaves, before)

    def test_there_is_no_such_index(self):
        for many in SIZES:
            leaves = drawn_leaves(self.source, many)
            for index in (-1, -many, -many - 1, many, many + 1, 10 ** 30):
                if index not in range(many):
                    self.refuses(leaf_paper, leaves, index)

    def accepts(self, leaves, size, index, leaf, paper):
        found = check_leaf(self.digests, self.root(leaves), size, index, leaf, paper)
        self.assertIs(type(found), bool)
        return found

    def test_the_leaf_that_is_there_and_no_other_one(self):
        for many in SIZES:
            leaves = drawn_leaves(self.source, many)
            papers = [leaf_paper(self.digests, leaves, index) for index in range(many)]
            for at, paper in enumerate(papers):
                for index in range(many):
                    for leaf in {leaves[at], leaves[index], leaves[at] + 1, -5}:
                        self.assertEqual(self.accepts(leaves, many, index, leaf, paper),
                                         leaves[index] == leaf and papers[index] == paper)

    def changed(self, paper):
        """The paper with a root changed, dropped, doubled or exchanged with another one."""
        rows = list(paper)
        at, other = self.source.randrange(len(rows)), self.source.randrange(len(rows))
        deed = self.source.choice(["change", "strange", "drop", "double", "exchange", "turn"])
        if deed == "change":
            rows[at] = self.source.randrange(self.digests.count())
        elif deed == "strange":
            rows[at] = self.source.choice([-1, self.digests.count(), 10 ** 40])
        elif deed == "drop":
            del rows[at]
        elif deed == "double":
            rows.insert(at, rows[at])
        elif deed == "exchange":
            rows[at], rows[other] = rows[other], rows[at]
        else:
            rows.reverse()
        return tuple(rows)

    def test_changed_papers(self):
        counts = {True: 0, False: 0}
        for _ in range(3000):
            leaves = drawn_leaves(self.source, self.source.randint(2, 20))
            index = self.source.randrange(len(leaves))
            right = leaf_paper(self.digests, leaves, index)
            paper = self.changed(right)
            found = self.accepts(leaves, len(leaves), index, leaves[index], paper)
            self.assertEqual(found, paper == right)
            counts[found] += 1
        self.assertGreater(min(counts.values()), 200)

    def test_empty_and_longer_papers(self):
        self.assertTrue(self.accepts([7], 1, 0, 7, ()))
        self.assertFalse(self.accepts([7], 1, 0, 7, (root(self.digests, [7]),)))
        self.assertFalse(self.accepts([7, 8], 2, 0, 7, ()))
        self.assertFalse(self.accepts([7, 8], 2, 0, 7, leaf_paper(self.digests, [7, 8], 0) * 2))

    def test_indexes_and_sizes_out_of_range(self):
        for many in SIZES:
            leaves = drawn_leaves(self.source, many)
            papers = [()] + [leaf_paper(self.digests, leaves, index) for index in range(many)]
            for paper in papers:
                for leaf in [0] + leaves:
                    for index in (-1, -many - 1, many, many + 1, 10 ** 30):
                        self.assertFalse(self.accepts(leaves, many, index, leaf, paper))
                    for size in (0, -1, -many - 1):
                        for index in (0, -1, size, size - 1):
                            self.assertFalse(self.accepts(leaves, size, index, leaf, paper))

    def rebuilt(self, size, index, leaf, paper):
        """A second telling of the root that a paper gives, from above, or None for a paper of a wrong length."""
        if size == 1:
            return None if paper else self.digests.number(("leaf", leaf))
        if not paper:
            return None
        left, last = left_part(size), paper[-1]
        is_left = index < left
        inner = self.rebuilt(left if is_left else size - left, index if is_left else index - left, leaf, paper[:-1])
        if inner is None:
            return None
        return self.digests.number(("node", inner, last) if is_left else ("node", last, inner))

    def test_other_sizes(self):
        """What a size that is not that of the list gives is what the computed root says."""
        for _ in range(2000):
            leaves = drawn_leaves(self.source, self.source.randint(1, 20), 1)
            at = self.source.randrange(len(leaves))
            paper = leaf_paper(self.digests, leaves, at)
            size = self.source.choice([self.source.randint(1, 25), 2 ** 200 + 5])
            index = self.source.choice([min(at, size - 1), size - 1, self.source.randrange(size)])
            self.assertEqual(self.accepts(leaves, size, index, leaves[at], paper),
                             self.rebuilt(size, index, leaves[at], paper) == root(self.digests, leaves))

    def test_a_list_that_is_too_long_to_be_written_down(self):
        size = 2 ** 200 + 3
        for index in (0, 5, 2 ** 199, 2 ** 200 - 1):
            paper = tuple(range(1000, 1201))
            found = self.rebuilt(size, index, 9, paper)
            self.assertTrue(check_leaf(self.digests, found, size, index, 9, paper))
            self.assertFalse(check_leaf(self.digests, found, size, index + 1, 9, paper))
            self.assertFalse(check_leaf(self.digests, found, size, index, 9, paper[1:]))

    def test_wrong_roots(self):
        leaves = [1, 2, 3, 4, 5]
        paper = leaf_paper(self.digests, leaves, 2)
        for other in range(-1, self.digests.count() + 2):
            self.assertEqual(check_leaf(self.digests, other, 5, 2, 3, paper), other == root(self.digests, leaves))


class GrowthPaperTest(TreeCase):

    def test_by_hand(self):
        def part(*leaves):
            return root(self.digests, list(leaves))
        leaves = [1, 2, 3, 4, 5, 6, 7]
        self.assertEqual(growth_paper(self.digests, [], 0), ())
        self.assertEqual(growth_paper(self.digests, [1], 0), ((0, 1, part(1)),))
        whole = ((0, 4, part(1, 2, 3, 4)), (4, 2, part(5, 6)), (6, 1, part(7)))
        self.assertEqual(growth_paper(self.digests, leaves, 0), whole)
        self.assertEqual(growth_paper(self.digests, leaves, 7), whole)
        self.assertEqual(growth_paper(self.digests, leaves, 4), whole)
        self.assertEqual(growth_paper(self.digests, leaves, 3), (
            (0, 2, part(1, 2)), (2, 1, part(3)), (3, 1, part(4)), (4, 2, part(5, 6)), (6, 1, part(7))))
        self.assertEqual(growth_paper(self.digests, leaves, 1), (
            (0, 1, part(1)), (1, 1, part(2)), (2, 2, part(3, 4)), (4, 2, part(5, 6)), (6, 1, part(7))))

    def cases(self):
        """Lists of all sizes with each of their beginnings."""
        for many in SIZES:
            leaves = drawn_leaves(self.source, many)
            for size in range(many + 1):
                yield leaves, size

    def accepts(self, old, old_size, new, new_size, paper):
        roots = self.root(old), self.root(new)
        found = check_growth(self.digests, roots[0], old_size, roots[1], new_size, paper)
        self.assertIs(type(found), bool)
        return found

    def test_each_size(self):
        for leaves, size in self.cases():
            before = list(leaves)
            paper = growth_paper(self.digests, leaves, size)
            self.assertEqual(leaves, before)
            self.assertIs(type(paper), tuple)
            self.assertEqual([row[:2] for row in paper], told_rows(size, len(leaves)))
            for start, many, found in paper:
                self.assertEqual(opened(self.digests, found), told_tree(leaves[start:start + many]))
            self.assertTrue(self.accepts(leaves[:size], size, leaves, len(leaves), paper))

    def test_rows_are_as_the_document_says(self):
        for leaves, size in self.cases():
            rows = growth_paper(self.digests, leaves, size)
            end = 0
            for start, many, _ in rows:
                self.assertEqual((start, many & (many - 1), start % many), (end, 0, 0))
                end = start + many
                self.assertFalse(start < size < end)
            self.assertEqual(end, len(leaves))
            for one, other in zip(rows, rows[1:]):
                same_side = (one[0] < size) == (other[0] < size)
                self.assertFalse(same_side and one[1] == other[1] and one[0] % (2 * one[1]) == 0)

    def test_there_is_no_such_beginning(self):
        for many in SIZES:
            leaves = drawn_leaves(self.source, many)
            for size in (-1, -many - 1, many + 1, 10 ** 30):
                self.refuses(growth_paper, leaves, size)

    def changed(self, paper):
        """The paper with a row changed, dropped, doubled, moved or cut."""
        rows = [list(row) for row in paper]
        at, other = self.source.randrange(len(rows)), self.source.randrange(len(rows))
        deed = self.source.choice(["part", "root", "drop", "double", "move", "split", "join", "cut", "more"])
        if deed == "part":
            rows[at][self.source.randrange(2)] += self.source.choice([1, -1, 2, 10 ** 20])
        elif deed == "root":
            rows[at][2] = self.source.choice([self.source.randrange(self.digests.count()), -1, 10 ** 30])
        elif deed == "drop":
            del rows[at]
        elif deed == "double":
            rows.insert(at, rows[at])
        elif deed == "move":
            rows.insert(other, rows.pop(at))
        elif deed == "split" and rows[at][1] > 1:
            start, size, found = rows[at]
            inner = self.digests.value(found)
            rows[at:at + 1] = [[start, size // 2, inner[1]], [start + size // 2, size // 2, inner[2]]]
        elif deed == "join" and at + 1 < len(rows):
            found = self.digests.number(("node", rows[at][2], rows[at + 1][2]))
            rows[at:at + 2] = [[rows[at][0], rows[at][1] + rows[at + 1][1], found]]
        elif deed == "cut":
            rows[at] = rows[at][:2]
        elif deed == "more":
            rows[at] = rows[at] + [0]
        return tuple(tuple(row) for row in rows)

    def test_changed_papers(self):
        counts = {True: 0, False: 0}
        for _ in range(6):
            for leaves, size in self.cases():
                if leaves:
                    right = growth_paper(self.digests, leaves, size)
                    paper = self.changed(right)
                    found = self.accepts(leaves[:size], size, leaves, len(leaves), paper)
                    self.assertEqual(found, paper == right)
                    counts[found] += 1
        self.assertGreater(counts[False], 800)

    def test_wrong_sizes_and_roots(self):
        for leaves, size in self.cases():
            if len(leaves) > 12:
                continue
            many = len(leaves)
            paper = growth_paper(self.digests, leaves, size)
            for old_size in range(-1, many + 3):
                for new_size in (many, many + 1, many - 1, old_size, old_size - 1, -1):
                    self.assertEqual(self.accepts(leaves[:size], old_size, leaves, new_size, paper),
                                     (old_size, new_size) == (size, many))
            for other in range(many + 1):
                self.assertEqual(self.accepts(leaves[:other], size, leaves, many, paper), other == size)
                self.assertEqual(self.accepts(leaves[:size], size, leaves[:other], many, paper), other == many)
            for strange in (-1, 10 ** 30):
                right = root(self.digests, leaves)
                self.assertFalse(check_growth(self.digests, strange, size, right, many, paper))
                right = root(self.digests, leaves[:size])
                self.assertFalse(check_growth(self.digests, right, size, strange, many, paper))

    def test_sizes_out_of_range(self):
        for paper in ((), growth_paper(self.digests, [1, 2, 3], 2)):
            for old_size, new_size in ((-1, 3), (4, 3), (3, 2), (1, 0), (-2, -1), (-1, -2), (-1, -1)):
                self.assertFalse(self.accepts([1, 2], old_size, [1, 2, 3], new_size, paper))
                self.assertFalse(self.accepts([], old_size, [], new_size, paper))

    def test_lists_that_are_no_continuation(self):
        for leaves, size in self.cases():
            if size:
                at = self.source.randrange(size)
                other = leaves[:at] + [leaves[at] + 1] + leaves[at + 1:]
                for paper in (growth_paper(self.digests, leaves, size), growth_paper(self.digests, other, size)):
                    self.assertFalse(self.accepts(other[:size], size, leaves, len(leaves), paper))
                    self.assertFalse(self.accepts(leaves[:size], size, other, len(leaves), paper))
                self.assertFalse(self.accepts(leaves[:size], size, leaves, len(leaves),
                                              growth_paper(self.digests, other, size)))

    def test_lists_that_are_too_long_to_be_written_down(self):
        """Rows of made-up roots, with sizes far above any list."""
        old_size, new_size = 2 ** 600 - 1, 2 ** 601 - 1
        starts = [2 ** 600 - 2 ** power for power in range(600, 0, -1)]
        rows = [(start, 2 ** power, power) for start, power in zip(starts, range(599, -1, -1))]
        rows.append((2 ** 600 - 1, 1, 777))
        rows += [(start + 2 ** 600, size, found + 1000) for start, size, found in rows[:-1]]
        left = self.folded([row[2] for row in rows[:600]])
        middle = rows[600][2]
        for row in reversed(rows[:600]):
            middle = self.digests.number(("node", row[2], middle))
        right = self.folded([row[2] for row in rows[601:]])
        new_root = self.digests.number(("node", middle, right))
        self.assertTrue(check_growth(self.digests, left, old_size, new_root, new_size, tuple(rows)))
        self.assertFalse(check_growth(self.digests, left, old_size, new_root, new_size, tuple(rows[:-1])))
        self.assertFalse(check_growth(self.digests, left, old_size, left, new_size, tuple(rows)))

    def folded(self, roots):
        """The root over parts each of which is smaller than the one before it."""
        found = roots[-1]
        for part in reversed(roots[:-1]):
            found = self.digests.number(("node", part, found))
        return found


if __name__ == "__main__":
    unittest.main()
