"""Promise 2, tk_can, and the refusals ahead of it."""

import itertools
import unittest

from tests.helper import MOST, EveryCall, NetEdges, free_rules
from tokenways.checks import tk_can

# One place: rule 0 takes 2 and puts 1, rule 1 takes 0 and puts 3.
ONE_PLACE = [2, 1, 0, 3]

# Three places: rule 0 moves one from place 0 to 1, rule 1 turns two on
# place 1 into one on place 2, rule 2 needs one on place 2 and puts it back.
THREE_PLACES = [
    1, 0, 0, 0, 1, 0,
    0, 2, 0, 0, 0, 1,
    0, 0, 1, 5, 0, 1,
]


class OrdinaryRows(unittest.TestCase):
    def test_one_place(self):
        # 2, 1, 4, 3, 2, 5 lie there one after another.
        row = [0, 1, 0, 0, 1]
        self.assertEqual(tk_can([2], ONE_PLACE, [5], row), [1])
        self.assertEqual(tk_can([2], ONE_PLACE, [4], row), [1])
        self.assertEqual(tk_can([2], ONE_PLACE, [0], row), [1])
        self.assertEqual(tk_can([2], ONE_PLACE, [6], row), [0])

    def test_several_places(self):
        # After this row lie 9, 1 and 1.
        row = [0, 0, 1, 2, 2, 0]
        self.assertEqual(tk_can([2, 0, 0], THREE_PLACES, [9, 1, 1], row), [1])
        self.assertEqual(tk_can([2, 0, 0], THREE_PLACES, [8, 0, 1], row), [1])
        self.assertEqual(tk_can([2, 0, 0], THREE_PLACES, [0, 0, 0], row), [1])

    def test_one_too_few_on_one_place(self):
        row = [0, 0, 1, 2, 2, 0]
        for place in range(3):
            goal = [9, 1, 1]
            goal[place] += 1
            self.assertEqual(tk_can([2, 0, 0], THREE_PLACES, goal, row), [0])
            # Much more elsewhere doesn't make up for it.
            goal = [0, 0, 0]
            goal[place] = [9, 1, 1][place] + 1
            self.assertEqual(tk_can([2, 0, 0], THREE_PLACES, goal, row), [0])

    def test_goal_is_asked_at_the_end_alone(self):
        # 2, 5, 4 lie there: 5 did for a while.
        self.assertEqual(tk_can([2], ONE_PLACE, [5], [1]), [1])
        self.assertEqual(tk_can([2], ONE_PLACE, [5], [1, 0]), [0])
        self.assertEqual(tk_can([2], ONE_PLACE, [4], [1, 0]), [1])

    def test_empty_row(self):
        self.assertEqual(tk_can([7], ONE_PLACE, [7], []), [1])
        self.assertEqual(tk_can([8], ONE_PLACE, [7], []), [1])
        self.assertEqual(tk_can([6], ONE_PLACE, [7], []), [0])
        self.assertEqual(tk_can([3, 0, 5], THREE_PLACES, [3, 0, 5], []), [1])
        self.assertEqual(tk_can([4, 1, 6], THREE_PLACES, [3, 0, 5], []), [1])
        for place in range(3):
            start = [3, 2, 5]
            start[place] -= 1
            self.assertEqual(tk_can(start, THREE_PLACES, [3, 2, 5], []), [0])

    def test_goal_of_zeros(self):
        self.assertEqual(tk_can([0], ONE_PLACE, [0], []), [1])
        self.assertEqual(tk_can([2], [2, 0], [0], [0]), [1])
        self.assertEqual(tk_can([0, 0, 0], THREE_PLACES, [0, 0, 0], []), [1])
        self.assertEqual(tk_can([0, 0, 0], THREE_PLACES, [0, 0, 0], [0]), [0])

    def test_all_sixteen_places_are_looked_at(self):
        rules = [0] * 32
        self.assertEqual(tk_can([0] * 15 + [1], rules, [0] * 15 + [1], [0]), [1])
        self.assertEqual(tk_can([0] * 15 + [1], rules, [0] * 15 + [2], [0]), [0])
        self.assertEqual(tk_can([1] * 15 + [0], rules, [1] * 15 + [1], [0]), [0])

    def test_against_running_sums(self):
        """Every net of one place, two rules and small numbers, every short row, every small goal."""
        for start, a, b, c, d in itertools.product(range(3), repeat=5):
            for m in range(4):
                for row in itertools.product(range(2), repeat=m):
                    takes = [(a, c)[r] for r in row]
                    puts = [(b, d)[r] for r in row]
                    there = [start + sum(puts[:i]) - sum(takes[:i]) for i in range(m + 1)]
                    short = any(there[i] < takes[i] for i in range(m))
                    for goal in range(4):
                        wanted = [0] if short or there[m] < goal else [1]
                        self.assertEqual(tk_can([start], [a, b, c, d], [goal], list(row)), wanted)


class NotDoable(unittest.TestCase):
    def test_first_middle_and_last(self):
        # Rule 2 needs one on place 2, which lies there in none of these.
        goal = [0, 0, 0]
        self.assertEqual(tk_can([3, 0, 0], THREE_PLACES, goal, [0, 0, 0]), [1])
        self.assertEqual(tk_can([3, 0, 0], THREE_PLACES, goal, [2, 0, 0]), [0])
        self.assertEqual(tk_can([3, 0, 0], THREE_PLACES, goal, [0, 2, 0]), [0])
        self.assertEqual(tk_can([3, 0, 0], THREE_PLACES, goal, [0, 0, 2]), [0])

    def test_where_goal_lay_there_before(self):
        self.assertEqual(tk_can([3, 0, 0], THREE_PLACES, [3, 0, 0], []), [1])
        self.assertEqual(tk_can([3, 0, 0], THREE_PLACES, [3, 0, 0], [2]), [0])
        self.assertEqual(tk_can([3, 0, 0], THREE_PLACES, [1, 2, 0], [0, 0]), [1])
        self.assertEqual(tk_can([3, 0, 0], THREE_PLACES, [1, 2, 0], [0, 0, 2]), [0])

    def test_enough_later_does_not_help(self):
        self.assertEqual(tk_can([1], ONE_PLACE, [1], [0, 1, 1]), [0])

    def test_what_a_rule_puts_is_not_there_to_be_taken_by_it(self):
        self.assertEqual(tk_can([2], [3, 9], [1], [0]), [0])


class GreatNumbers(unittest.TestCase):
    def test_greatest_number_is_a_number_like_others(self):
        self.assertEqual(tk_can([MOST], [1, 0], [MOST], []), [1])
        self.assertEqual(tk_can([MOST - 1], [1, 0], [MOST], []), [0])
        self.assertEqual(tk_can([MOST], [1, 0], [MOST], [0]), [0])
        self.assertEqual(tk_can([MOST], [1, 0], [MOST - 1], [0]), [1])
        self.assertEqual(tk_can([MOST], [MOST, 0], [0], [0]), [1])
        self.assertEqual(tk_can([MOST], [MOST, 0], [1], [0]), [0])
        self.assertEqual(tk_can([MOST - 1], [MOST, MOST], [0], [0]), [0])
        self.assertEqual(tk_can([0], [0, MOST], [MOST], [0]), [1])

    def test_sums_beyond_two_to_the_32(self):
        # 2^32 tokens and more: cut to 32 bits that would be few.
        self.assertEqual(tk_can([MOST], [0, 1], [1], [0]), [1])
        self.assertEqual(tk_can([MOST], [0, 1], [MOST], [0]), [1])
        self.assertEqual(tk_can([MOST, 1], [0, 0, MOST, 1], [MOST, 4], [0, 0, 0]), [1])
        self.assertEqual(tk_can([MOST, 1], [0, 0, MOST, 1], [MOST, 5], [0, 0, 0]), [0])
        self.assertEqual(tk_can([MOST], [0, 1, MOST, 0], [1], [0, 1]), [1])
        self.assertEqual(tk_can([MOST], [0, 1, MOST, 0], [2], [0, 1]), [0])
        self.assertEqual(tk_can([MOST], [0, 1, MOST, 0], [0], [0, 1, 1]), [0])

    def test_long_row(self):
        m = 100000
        self.assertEqual(tk_can([0], [0, MOST], [MOST], [0] * m), [1])
        self.assertEqual(tk_can([m], [1, 0], [0], [0] * m), [1])
        self.assertEqual(tk_can([m], [1, 0], [1], [0] * m), [0])
        self.assertEqual(tk_can([m - 1], [1, 0], [0], [0] * m), [0])


class OutOfRange(NetEdges, unittest.TestCase):
    def ask(self, start, rules):
        return tk_can(start, rules, [0] * len(start), [])

    def test_no_places_whatever_the_row(self):
        for rules in ([], [1], [1, 2]):
            for row in ([], [0], [255]):
                self.assertEqual(tk_can([], rules, [], row), [-22])

    def test_a_byte_that_is_no_rule(self):
        for n in (1, 3):
            goal = [0] * n
            for k in (1, 2, 5, 64):
                rules = free_rules(n, k)
                self.assertEqual(tk_can([0] * n, rules, goal, [k - 1]), [1])
                for byte in (k, k + 1, 255):
                    self.assertEqual(tk_can([0] * n, rules, goal, [byte]), [-22])
                    self.assertEqual(tk_can([0] * n, rules, goal, [byte, 0, 0]), [-22])
                    self.assertEqual(tk_can([0] * n, rules, goal, [0, byte, 0]), [-22])
                    self.assertEqual(tk_can([0] * n, rules, goal, [0, 0, byte]), [-22])

    def test_last_rule_is_done(self):
        self.assertEqual(tk_can([0], free_rules(1, 64), [63], [63]), [1])
        self.assertEqual(tk_can([0], free_rules(1, 64), [64], [63]), [0])

    def test_behind_a_rule_that_can_not_be_done(self):
        self.assertEqual(tk_can([0], [1, 0], [0], [0]), [0])
        self.assertEqual(tk_can([0], [1, 0], [0], [0, 1]), [-22])
        self.assertEqual(tk_can([0], [1, 0], [0], [0, 0, 255]), [-22])
        self.assertEqual(tk_can([0], [1, 0] * 64, [0], [0]), [0])
        self.assertEqual(tk_can([0], [1, 0] * 65, [0], [0]), [-22])

    def test_whether_goal_lies_there_is_no_matter(self):
        self.assertEqual(tk_can([0], [0, 0], [9], [1]), [-22])
        self.assertEqual(tk_can([9], [0, 0], [9], [1]), [-22])

    def test_longest_row(self):
        m = 1048576
        self.assertEqual(tk_can([0], [0, 1], [m], [0] * m), [1])
        self.assertEqual(tk_can([0], [0, 1], [0], [0] * (m + 1)), [-22])


class HowItIsCalled(EveryCall, unittest.TestCase):
    answer = staticmethod(tk_can)
    calls = (
        ([2, 0, 0], THREE_PLACES, [5, 0, 1], [0, 0, 1, 2]),
        ([2, 0, 0], THREE_PLACES, [6, 0, 1], [0, 0, 1, 2]),
        ([2, 0, 0], THREE_PLACES, [2, 0, 0], []),
        ([2, 0, 0], THREE_PLACES, [0, 0, 0], [0, 2]),
        ([2, 0, 0], THREE_PLACES, [0, 0, 0], [0, 3]),
        ([], [1, 2], [], [0]),
    )

    def test_names_of_arguments(self):
        self.assertEqual(tk_can(start=[1], rules=[1, 4], goal=[4], row=[0]), [1])


if __name__ == "__main__":
    unittest.main()
