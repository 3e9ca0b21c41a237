"""Promise 1, tk_run, and the refusals ahead of it."""

import itertools
import unittest

from tests.helper import MOST, EveryCall, free_rules
from tokenways.checks import tk_run

# One place: rule 0 takes 2 and puts 1, rule 1 takes 0 and puts 3.
ONE_PLACE = [2, 1, 0, 3]

# Three places: rule 0 moves one from place 0 to 1, rule 1 turns two on
# place 1 into one on place 2, rule 2 needs one on place 2 and puts it back.
THREE_PLACES = [
    1, 0, 0, 0, 1, 0,
    0, 2, 0, 0, 0, 1,
    0, 0, 1, 5, 0, 1,
]


class OrdinaryRows(unittest.TestCase):
    def test_one_place(self):
        self.assertEqual(tk_run([2], ONE_PLACE, [0]), [0, 1])
        self.assertEqual(tk_run([2], ONE_PLACE, [1]), [0, 5])
        self.assertEqual(tk_run([2], ONE_PLACE, [0, 1, 0, 0, 1]), [0, 5])

    def test_several_places(self):
        self.assertEqual(tk_run([2, 0, 0], THREE_PLACES, [0]), [0, 1, 1, 0])
        self.assertEqual(tk_run([2, 0, 0], THREE_PLACES, [0, 0]), [0, 0, 2, 0])
        self.assertEqual(tk_run([2, 0, 0], THREE_PLACES, [0, 0, 1]), [0, 0, 0, 1])
        self.assertEqual(tk_run([2, 0, 0], THREE_PLACES, [0, 0, 1, 2, 2, 0]), [0, 9, 1, 1])

    def test_empty_row_leaves_start(self):
        self.assertEqual(tk_run([7], ONE_PLACE, []), [0, 7])
        self.assertEqual(tk_run([3, 0, MOST], THREE_PLACES, []), [0, 3, 0, MOST])

    def test_takes_and_puts_on_the_same_place(self):
        self.assertEqual(tk_run([4, 1], [4, 1, 6, 1], [0]), [0, 6, 1])
        self.assertEqual(tk_run([3], [3, 3], [0, 0, 0]), [0, 3])

    def test_what_a_rule_puts_is_not_there_to_be_taken_by_it(self):
        self.assertEqual(tk_run([2], [3, 9], [0]), [-2])
        self.assertEqual(tk_run([0, 5], [1, 0, 1, 0], [0]), [-2])

    def test_takes_exactly_what_lies_there(self):
        self.assertEqual(tk_run([5, 2], [5, 2, 0, 0], [0]), [0, 0, 0])
        self.assertEqual(tk_run([5, 2], [5, 2, 1, 4], [0]), [0, 1, 4])
        self.assertEqual(tk_run([MOST], [MOST, 0], [0]), [0, 0])

    def test_one_too_few_on_one_place(self):
        for place in range(3):
            start = [5, 5, 5]
            start[place] = 4
            self.assertEqual(tk_run(start, [5, 5, 5, 0, 0, 0], [0]), [-2])

    def test_rule_that_takes_and_puts_nothing(self):
        self.assertEqual(tk_run([0, 3], [0, 0, 0, 0], [0, 0]), [0, 0, 3])

    def test_the_order_of_the_row_counts(self):
        # Rule 0 needs what rule 1 puts.
        self.assertEqual(tk_run([0], [1, 0, 0, 1], [1, 0]), [0, 0])
        self.assertEqual(tk_run([0], [1, 0, 0, 1], [0, 1]), [-2])

    def test_against_running_sums(self):
        """Every net of one place, two rules and small numbers, every short row."""
        for start, a, b, c, d in itertools.product(range(3), repeat=5):
            for m in range(4):
                for row in itertools.product(range(2), repeat=m):
                    takes = [(a, c)[r] for r in row]
                    puts = [(b, d)[r] for r in row]
                    there = [start + sum(puts[:i]) - sum(takes[:i]) for i in range(m + 1)]
                    short = any(there[i] < takes[i] for i in range(m))
                    wanted = [-2] if short else [0, there[m]]
                    self.assertEqual(tk_run([start], [a, b, c, d], list(row)), wanted)


class GreatNumbers(unittest.TestCase):
    def test_sums_beyond_two_to_the_32(self):
        self.assertEqual(tk_run([MOST], [0, MOST], [0]), [0, 2 * MOST])
        self.assertEqual(tk_run([MOST, 1], [0, 0, MOST, 1], [0, 0, 0]), [0, 4 * MOST, 4])

    def test_more_than_two_to_the_32_is_enough_to_take_from(self):
        # 2^32 tokens lie there: cut to 32 bits that would be none.
        self.assertEqual(tk_run([MOST], [0, 1, MOST, 0], [0, 1]), [0, 1])
        self.assertEqual(tk_run([MOST], [0, 1, MOST, 0], [0, 1, 1]), [-2])

    def test_greatest_number_is_a_number_like_others(self):
        self.assertEqual(tk_run([MOST], [1, 0], [0]), [0, MOST - 1])
        self.assertEqual(tk_run([MOST - 1], [MOST, MOST], [0]), [-2])

    def test_long_row(self):
        m = 100000
        self.assertEqual(tk_run([0], [0, MOST], [0] * m), [0, m * MOST])
        self.assertEqual(tk_run([m], [1, 0], [0] * m), [0, 0])
        self.assertEqual(tk_run([m - 1], [1, 0], [0] * m), [-2])


class NotDoable(unittest.TestCase):
    def test_first_middle_and_last(self):
        # Rule 2 needs one on place 2, which lies there in none of these.
        self.assertEqual(tk_run([3, 0, 0], THREE_PLACES, [0, 0, 0]), [0, 0, 3, 0])
        self.assertEqual(tk_run([3, 0, 0], THREE_PLACES, [2, 0, 0]), [-2])
        self.assertEqual(tk_run([3, 0, 0], THREE_PLACES, [0, 2, 0]), [-2])
        self.assertEqual(tk_run([3, 0, 0], THREE_PLACES, [0, 0, 2]), [-2])

    def test_enough_later_does_not_help(self):
        self.assertEqual(tk_run([1], ONE_PLACE, [0, 1, 1]), [-2])

    def test_only_rule_of_the_row(self):
        self.assertEqual(tk_run([0], [1, 0], [0]), [-2])

    def test_used_up(self):
        self.assertEqual(tk_run([2, 0, 0], THREE_PLACES, [0, 0, 0]), [-2])


class OutOfRange(unittest.TestCase):
    def test_no_places(self):
        for rules in ([], [1], [0, 0], [1, 2, 3, 4]):
            for row in ([], [0], [255]):
                self.assertEqual(tk_run([], rules, row), [-22])

    def test_sixteen_and_seventeen_places(self):
        start = list(range(17))
        self.assertEqual(tk_run(start[:15], free_rules(15, 2), [1]), [0, 1] + start[1:15])
        self.assertEqual(tk_run(start[:16], free_rules(16, 2), [1]), [0, 1] + start[1:16])
        self.assertEqual(tk_run(start, free_rules(17, 2), [1]), [-22])
        self.assertEqual(tk_run(start, free_rules(17, 2), []), [-22])
        self.assertEqual(tk_run([0] * 20, free_rules(20, 1), [0]), [-22])

    def test_all_sixteen_places_are_looked_at(self):
        takes = [0] * 15 + [1]
        puts = [0] * 15 + [3]
        self.assertEqual(tk_run([0] * 16, takes + puts, [0]), [-2])
        self.assertEqual(tk_run(takes, takes + puts, [0]), [0] + puts)

    def test_no_rules(self):
        self.assertEqual(tk_run([1], [], []), [-22])
        self.assertEqual(tk_run([1], [], [0]), [-22])
        self.assertEqual(tk_run([0] * 16, [], []), [-22])

    def test_one_rule_is_enough(self):
        self.assertEqual(tk_run([1], [0, 0], []), [0, 1])

    def test_sixty_four_and_sixty_five_rules(self):
        for n in (1, 2, 16):
            none = [0] * (n - 1)
            self.assertEqual(tk_run([0] * n, free_rules(n, 64), [63, 1]), [0, 64] + none)
            self.assertEqual(tk_run([0] * n, free_rules(n, 64), []), [0, 0] + none)
            self.assertEqual(tk_run([0] * n, free_rules(n, 65), [0]), [-22])
            self.assertEqual(tk_run([0] * n, free_rules(n, 65), []), [-22])

    def test_a_byte_that_is_no_rule(self):
        for n in (1, 3):
            for k in (1, 2, 5, 64):
                rules = free_rules(n, k)
                none = [0] * (n - 1)
                self.assertEqual(tk_run([0] * n, rules, [k - 1]), [0, k - 1] + none)
                for byte in (k, k + 1, 255):
                    self.assertEqual(tk_run([0] * n, rules, [byte]), [-22])
                    self.assertEqual(tk_run([0] * n, rules, [byte, 0, 0]), [-22])
                    self.assertEqual(tk_run([0] * n, rules, [0, byte, 0]), [-22])
                    self.assertEqual(tk_run([0] * n, rules, [0, 0, byte]), [-22])

    def test_longest_row(self):
        m = 1048576
        self.assertEqual(tk_run([0], [0, 1], [0] * m), [0, m])
        self.assertEqual(tk_run([0], [0, 1], [0] * (m + 1)), [-22])

    def test_ahead_of_not_doable(self):
        # The first rule of each row can't be done.
        self.assertEqual(tk_run([0], [1, 0], [0]), [-2])
        self.assertEqual(tk_run([0], [1, 0], [0, 1]), [-22])
        self.assertEqual(tk_run([0], [1, 0], [0, 0, 255]), [-22])
        self.assertEqual(tk_run([0] * 17, [1] * 34, [0]), [-22])
        self.assertEqual(tk_run([0], [1, 0] * 64, [0]), [-2])
        self.assertEqual(tk_run([0], [1, 0] * 65, [0]), [-22])
        self.assertEqual(tk_run([0], [1, 0], [0] * 1048577), [-22])


class HowItIsCalled(EveryCall, unittest.TestCase):
    answer = staticmethod(tk_run)
    calls = (
        ([2, 0, 0], THREE_PLACES, [0, 0, 1, 2]),
        ([2, 0, 0], THREE_PLACES, []),
        ([2, 0, 0], THREE_PLACES, [0, 2]),
        ([2, 0, 0], THREE_PLACES, [0, 3]),
        ([], [1, 2], [0]),
    )

    def test_answer_is_a_new_list(self):
        start = [1, 2]
        answer = tk_run(start, [0, 0, 0, 0], [])
        answer[1] = 50
        self.assertEqual(start, [1, 2])

    def test_names_of_arguments(self):
        self.assertEqual(tk_run(start=[1], rules=[1, 4], row=[0]), [0, 4])


if __name__ == "__main__":
    unittest.main()
