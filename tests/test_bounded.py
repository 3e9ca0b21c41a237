"""Promise 5, tk_bounded, and the refusals ahead of it."""

import itertools
import random
import unittest

from tests.helper import MOST, EveryCall, NetEdges, free_rules, holds_by_words, pieces
from tokenways.checks import tk_bounded

NONE = MOST

# Two places: rule 0 moves one from place 0 to 1, rule 1 moves one back.
THERE_AND_BACK = [
    1, 0, 0, 1,
    0, 1, 1, 0,
]

# Two places: the rule needs one on place 0, puts it back, and puts one on place 1.
SPRING = [1, 0, 1, 1]


class OrdinaryLists(unittest.TestCase):
    def test_one_bound(self):
        self.assertEqual(tk_bounded(0, [3], [1, 0], [3]), [1])
        self.assertEqual(tk_bounded(0, [3], [1, 0], [8]), [1])
        self.assertEqual(tk_bounded(0, [3], [1, 0], [MOST - 1]), [1])
        self.assertEqual(tk_bounded(0, [3], [1, 0], [NONE]), [0])
        self.assertEqual(tk_bounded(0, [0], [0, 0], [0]), [1])

    def test_several_bounds(self):
        listed = [2, 0, 1, 1, 0, 2]
        for p in (0, 1):
            self.assertEqual(tk_bounded(p, [2, 0], THERE_AND_BACK, listed), [1])

    def test_no_bound_in_the_first_a_middle_or_the_last(self):
        for p in range(3):
            # No rule changes anything, so whatever start lies within holds.
            listed = [3, 3, 3, 4, 4, 4, 5, 5, 5]
            self.assertEqual(tk_bounded(p, [1, 1, 1], [0] * 6, listed), [1])
            for which in range(3):
                opened = list(listed)
                opened[3 * which + p] = NONE
                self.assertEqual(tk_bounded(p, [1, 1, 1], [0] * 6, opened), [0])
                for other in range(3):
                    if other != p:
                        self.assertEqual(tk_bounded(other, [1, 1, 1], [0] * 6, opened), [1])

    def test_no_bound_at_all_at_another_place(self):
        self.assertEqual(tk_bounded(0, [1, 0], SPRING, [1, NONE]), [1])
        self.assertEqual(tk_bounded(1, [1, 0], SPRING, [1, NONE]), [0])

    def test_bounds_that_lie_within_another_count_too(self):
        self.assertEqual(tk_bounded(1, [1, 0], [0] * 4, [1, 1, 2, 2]), [1])
        self.assertEqual(tk_bounded(1, [1, 0], [0] * 4, [1, 1, 0, NONE]), [0])

    def test_all_sixteen_places(self):
        for p in range(16):
            self.assertEqual(tk_bounded(p, [1] * 16, [0] * 32, [1] * 16), [1])
            listed = [NONE] * 16
            self.assertEqual(tk_bounded(p, [1] * 16, [0] * 32, listed), [0])
            listed[p] = 1
            self.assertEqual(tk_bounded(p, [1] * 16, [0] * 32, listed), [1])


class ListsThatDoNotHold(unittest.TestCase):
    def test_empty_list(self):
        self.assertEqual(tk_bounded(0, [0], [1, 0], []), [0])
        self.assertEqual(tk_bounded(1, [0, 0], THERE_AND_BACK, []), [0])

    def test_start_within_none(self):
        self.assertEqual(tk_bounded(0, [3], [1, 0], [2]), [0])
        self.assertEqual(tk_bounded(0, [3], [1, 0], [2, 1, 0]), [0])
        self.assertEqual(tk_bounded(0, [3], [1, 0], [2, 3, 0]), [1])
        self.assertEqual(tk_bounded(0, [0, 9], [0] * 4, [5, 8]), [0])
        self.assertEqual(tk_bounded(0, [1, 1], [0] * 4, [5, 0, 0, 5]), [0])
        self.assertEqual(tk_bounded(0, [MOST, 0], [0] * 4, [MOST - 1, 0]), [0])

    def test_a_rule_that_leads_out(self):
        self.assertEqual(tk_bounded(0, [0], [0, 1], [0, 1, 2, 3]), [0])
        self.assertEqual(tk_bounded(0, [0], [0, 1], [MOST - 1]), [0])
        self.assertEqual(tk_bounded(0, [2, 0], THERE_AND_BACK, [2, 0, 1, 1]), [0])
        # It leads out at the other place than p.
        self.assertEqual(tk_bounded(0, [1, 0], SPRING, [1, 5]), [0])
        self.assertEqual(tk_bounded(0, [0, 0], SPRING, [0, 5]), [1])

    def test_a_rule_that_takes_one_more_than_the_bound(self):
        self.assertEqual(tk_bounded(0, [3], [4, 50], [3]), [1])
        self.assertEqual(tk_bounded(0, [3], [3, 50], [3]), [0])

    def test_no_bound_lies_only_within_no_bound(self):
        rules = [1, 0, 0, 0, 0, 1]
        self.assertEqual(tk_bounded(0, [1, 0, 0], rules, [1, NONE, 0, 0, NONE, 1]), [1])
        self.assertEqual(tk_bounded(0, [1, 0, 0], rules, [1, NONE, 0, 0, MOST - 1, 1]), [0])


class AgainstTheWords(unittest.TestCase):
    """Every answer against the words of the document, read off one by one."""

    def check(self, start, rules, bounds):
        n = len(start)
        holds = holds_by_words(start, rules, bounds)
        ones = 0
        for p in range(n):
            wanted = 1 if holds and all(each[p] != NONE for each in pieces(bounds, n)) else 0
            self.assertEqual(tk_bounded(p, start, rules, bounds), [wanted], (p, start, rules, bounds))
            ones += wanted
        return ones

    def test_every_small_net_of_one_place(self):
        ones = 0
        for taken, put, start in itertools.product(range(3), repeat=3):
            for c in range(4):
                for bounds in itertools.product((0, 1, 2, NONE), repeat=c):
                    ones += self.check([start], [taken, put], list(bounds))
        self.assertGreater(ones, 100)

    def test_chosen_nets_of_several_places(self):
        ones = 0
        chance = random.Random(20261116)
        for turn in range(10000):
            n = chance.choice((1, 2, 2, 3))
            start = [chance.choice((0, 0, 1, 2)) for place in range(n)]
            numbers = 2 * n * chance.choice((1, 1, 2, 3))
            rules = [chance.choice((0, 0, 0, 1, 1, 2, MOST)) for number in range(numbers)]
            c = chance.choice((1, 2, 3, 5, 8))
            bounds = [chance.choice((0, 1, 2, 3, MOST - 1, NONE)) for number in range(n * c)]
            ones += self.check(start, rules, bounds)
        self.assertGreater(ones, 100)


class OutOfRange(NetEdges, unittest.TestCase):
    def ask(self, start, rules):
        return tk_bounded(0, start, rules, [0] * len(start))

    def test_no_places_whatever_the_bounds(self):
        for rules in ([], [1], [1, 2]):
            for bounds in ([], [0], [1, 2, 3]):
                for p in (0, 1, MOST):
                    self.assertEqual(tk_bounded(p, [], rules, bounds), [-22])

    def test_no_rules_whatever_the_bounds(self):
        for bounds in ([], [0], [5, NONE]):
            self.assertEqual(tk_bounded(0, [0], [], bounds), [-22])

    def test_p_that_is_no_place(self):
        for n in (1, 2, 16):
            rules = [1] * n + [0] * n
            for bounds in ([0] * n, [NONE] * n, []):
                self.assertEqual(tk_bounded(n - 1, [0] * n, rules, bounds), [1 if bounds == [0] * n else 0])
                for p in (n, n + 1, 17, MOST):
                    self.assertEqual(tk_bounded(p, [0] * n, rules, bounds), [-22])

    def test_longest_list(self):
        c = 65536
        for n in (1, 2):
            rules = free_rules(n, 1)
            self.assertEqual(tk_bounded(0, [0] * n, rules, [0] * (n * c)), [1])
            self.assertEqual(tk_bounded(0, [0] * n, rules, [0] * (n * c + n)), [-22])
            # Too long comes ahead of what is in it.
            self.assertEqual(tk_bounded(0, [9] * n, rules, [0] * (n * c + n)), [-22])
            self.assertEqual(tk_bounded(0, [0] * n, rules, [NONE] * (n * c + n)), [-22])


class HowItIsCalled(EveryCall, unittest.TestCase):
    answer = staticmethod(tk_bounded)
    calls = (
        (0, [2, 0], THERE_AND_BACK, [2, 0, 1, 1, 0, 2]),
        (1, [2, 0], THERE_AND_BACK, [2, 0, 1, 1]),
        (1, [1, 0], SPRING, [1, NONE]),
        (0, [1, 0], SPRING, [1, NONE]),
        (0, [2, 0], THERE_AND_BACK, []),
        (2, [2, 0], THERE_AND_BACK, [2, 0, 1, 1, 0, 2]),
        (0, [0], [], [0]),
        (0, [], [1, 2], [0]),
    )

    def test_names_of_arguments(self):
        self.assertEqual(tk_bounded(p=0, start=[1], rules=[1, 0], bounds=[1]), [1])


if __name__ == "__main__":
    unittest.main()
