"""Point 6: sets of guards."""

import itertools
import random
import unittest

from vaultbridge.sets import is_set, minority, threshold, total

LONGEST = "g" * 20
BAD_NAMES = ["", "g" * 21, 7, None, True, (), ("a",), b"a", ["a"], "a\n", "a\x7f", "\x1f", "caf\u00e9", "a\u0025"]
BAD_WEIGHTS = [0, -1, -50, True, False, None, "1", "", 1.0, 2.5, (), (1,), [1], {}]
BAD_PAIRS = [(), ("a",), ("a", 1, 1), "a", "ab", 7, None, True, ["a", 1], {"a": 1}, object()]


def drawn_set(random_source):
    names = random_source.sample(["a", "b", "c", "Dora", "~ !", LONGEST], random_source.randint(1, 5))
    return tuple((name, random_source.randint(1, 50)) for name in names)


def spoilt_sets(good, random_source):
    """The set with each single part spoilt, one after the other."""
    at = random_source.randrange(len(good))
    name, weight = good[at]
    parts = [(bad, weight) for bad in BAD_NAMES] + [(name, bad) for bad in BAD_WEIGHTS] + BAD_PAIRS
    found = [good[:at] + (part,) + good[at + 1:] for part in parts]
    found.append(good + (good[at],))
    found.append(good + ((name, weight + 1),))
    found.append(((name, weight + 1),) + good)
    return found


def groups(guards):
    for many in range(len(guards) + 1):
        for group in itertools.combinations(guards, many):
            yield group


class SetsTest(unittest.TestCase):

    def setUp(self):
        self.random = random.Random(6)

    def test_sets_are_sets(self):
        for _ in range(300):
            self.assertIs(is_set(drawn_set(self.random)), True)
        for value in [(("a", 1),), ((LONGEST, 50),), (("a", 10 ** 30),), ((" ", 1), ("~", 1)), (("a", 1), ("A", 1))]:
            self.assertIs(is_set(value), True, value)

    def test_spoilt_sets_are_none(self):
        self.assertIs(is_set(()), False)
        for _ in range(100):
            for value in spoilt_sets(drawn_set(self.random), self.random):
                self.assertIs(is_set(value), False, value)

    def test_what_is_no_tuple_is_no_set(self):
        for value in [[("a", 1)], {"a": 1}, "a", None, 1, True]:
            self.assertIs(is_set(value), False, value)

    def test_known_numbers(self):
        four = (("a", 1), ("b", 1), ("c", 1), ("d", 1))
        self.assertEqual((total(four), threshold(four), minority(four)), (4, 3, 2))
        known = {1: (1, 1), 2: (2, 1), 3: (3, 1), 4: (3, 2), 5: (4, 2), 6: (5, 2), 7: (5, 3), 100: (67, 34)}
        for weight in known:
            one = (("a", weight),)
            self.assertEqual((threshold(one), minority(one)), known[weight], weight)

    def test_numbers_as_documented(self):
        for _ in range(300):
            guards = drawn_set(self.random)
            whole = sum(weight for _, weight in guards)
            self.assertEqual(total(guards), whole)
            least = next(n for n in range(whole + 2) if 3 * n > 2 * whole)
            self.assertEqual(threshold(guards), least)
            self.assertEqual(minority(guards), whole - least + 1)

    def test_groups_that_reach_the_threshold_have_more_than_a_third_in_common(self):
        for _ in range(60):
            guards = drawn_set(self.random)
            strong = [group for group in groups(guards) if sum(w for _, w in group) >= threshold(guards)]
            for one, other in itertools.product(strong, strong):
                common = sum(weight for name, weight in one if (name, weight) in other)
                self.assertGreater(3 * common, total(guards))

    def test_a_group_that_misses_the_minority_leaves_the_threshold(self):
        for _ in range(60):
            guards = drawn_set(self.random)
            for group in groups(guards):
                has = sum(weight for _, weight in group)
                leaves = total(guards) - has
                self.assertEqual(has < minority(guards), leaves >= threshold(guards))


if __name__ == "__main__":
    unittest.main()
