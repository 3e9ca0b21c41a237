"""Promise 3, tk_cannot, and the refusals ahead of it."""

import itertools
import random
import unittest

from tests.helper import MOST, EveryCall, NetEdges, free_rules, holds_by_words, pieces
from tokenways.checks import tk_cannot

NONE = MOST

# Two places: rule 0 moves one from place 0 to 1, rule 1 moves one back.
THERE_AND_BACK = [
    1, 0, 0, 1,
    0, 1, 1, 0,
]

# Rule 0 moves one from place 0 to 1 and puts one on place 2.
COUNTED = [1, 0, 0, 0, 1, 1]


class OrdinaryLists(unittest.TestCase):
    def test_one_bound_over_one_place(self):
        # The rule only takes, so no more than start ever lies there.
        self.assertEqual(tk_cannot([3], [1, 0], [4], [3]), [1])
        self.assertEqual(tk_cannot([3], [1, 0], [9], [3]), [1])
        self.assertEqual(tk_cannot([3], [1, 0], [9], [5]), [1])

    def test_goal_just_at_the_bound_is_not_beyond_it(self):
        self.assertEqual(tk_cannot([3], [1, 0], [3], [3]), [0])
        self.assertEqual(tk_cannot([3], [1, 0], [0], [3]), [0])
        self.assertEqual(tk_cannot([3], [1, 0], [5], [5]), [0])
        self.assertEqual(tk_cannot([0], [1, 0], [0], [0]), [0])
        self.assertEqual(tk_cannot([0], [1, 0], [1], [0]), [1])

    def test_several_bounds_over_one_place(self):
        self.assertEqual(tk_cannot([3], [1, 0], [4], [3, 2, 1, 0]), [1])
        self.assertEqual(tk_cannot([3], [1, 0], [4], [0, 1, 2, 3]), [1])
        self.assertEqual(tk_cannot([3], [1, 0], [3], [0, 1, 2, 3]), [0])
        self.assertEqual(tk_cannot([3], [1, 0], [3], [3, 2, 1, 0]), [0])

    def test_several_bounds_over_several_places(self):
        # Two tokens go there and back: never more than two in all.
        listed = [2, 0, 1, 1, 0, 2]
        for start in ([2, 0], [1, 1], [0, 2], [0, 1], [0, 0]):
            self.assertEqual(tk_cannot(start, THERE_AND_BACK, [3, 0], listed), [1])
            self.assertEqual(tk_cannot(start, THERE_AND_BACK, [2, 1], listed), [1])
            self.assertEqual(tk_cannot(start, THERE_AND_BACK, [1, 2], listed), [1])
            self.assertEqual(tk_cannot(start, THERE_AND_BACK, [0, 3], listed), [1])

    def test_goal_not_beyond_one_of_several(self):
        listed = [2, 0, 1, 1, 0, 2]
        for goal in ([2, 0], [1, 1], [0, 2], [1, 0], [0, 1], [0, 0]):
            self.assertEqual(tk_cannot([2, 0], THERE_AND_BACK, goal, listed), [0])

    def test_one_place_beyond_is_enough(self):
        rules = [0] * 6
        self.assertEqual(tk_cannot([1, 1, 1], rules, [2, 0, 0], [1, 1, 1]), [1])
        self.assertEqual(tk_cannot([1, 1, 1], rules, [0, 2, 0], [1, 1, 1]), [1])
        self.assertEqual(tk_cannot([1, 1, 1], rules, [0, 0, 2], [1, 1, 1]), [1])
        self.assertEqual(tk_cannot([1, 1, 1], rules, [1, 1, 1], [1, 1, 1]), [0])

    def test_beyond_each_at_another_place(self):
        rules = [0, 0, 0, 0]
        self.assertEqual(tk_cannot([0, 0], rules, [2, 2], [5, 1, 1, 5]), [1])
        self.assertEqual(tk_cannot([0, 0], rules, [2, 2], [5, 2, 1, 5]), [0])
        self.assertEqual(tk_cannot([0, 0], rules, [2, 2], [5, 1, 2, 5]), [0])

    def test_empty_list(self):
        for goal in (0, 1, MOST):
            self.assertEqual(tk_cannot([0], [1, 0], [goal], []), [0])
            self.assertEqual(tk_cannot([0, 0], THERE_AND_BACK, [goal, goal], []), [0])

    def test_the_same_bounds_twice(self):
        self.assertEqual(tk_cannot([3], [1, 0], [4], [3, 3]), [1])
        self.assertEqual(tk_cannot([2, 0], THERE_AND_BACK, [3, 0], [2, 0, 1, 1, 0, 2] * 2), [1])


class Start(unittest.TestCase):
    def test_within_none(self):
        self.assertEqual(tk_cannot([4], [1, 0], [9], [3]), [0])
        self.assertEqual(tk_cannot([4], [1, 0], [9], [3, 2, 1]), [0])

    def test_just_at_a_bound_and_one_above(self):
        self.assertEqual(tk_cannot([3], [1, 0], [9], [3]), [1])
        self.assertEqual(tk_cannot([4], [1, 0], [9], [3]), [0])
        for place in range(3):
            start = [3, 3, 3]
            self.assertEqual(tk_cannot(start, [0] * 6, [9, 9, 9], [3, 3, 3]), [1])
            start[place] = 4
            self.assertEqual(tk_cannot(start, [0] * 6, [9, 9, 9], [3, 3, 3]), [0])

    def test_within_the_first_or_the_last_only(self):
        self.assertEqual(tk_cannot([5], [1, 0], [9], [5, 2, 1]), [1])
        self.assertEqual(tk_cannot([5], [1, 0], [9], [1, 2, 5]), [1])
        self.assertEqual(tk_cannot([5, 0], [0] * 4, [9, 9], [5, 0, 0, 5]), [1])
        self.assertEqual(tk_cannot([0, 5], [0] * 4, [9, 9], [5, 0, 0, 5]), [1])

    def test_within_one_and_the_same(self):
        # Each place alone has room in one of the bounds, both have it in none.
        self.assertEqual(tk_cannot([5, 5], [0] * 4, [9, 9], [5, 0, 0, 5]), [0])
        self.assertEqual(tk_cannot([1, 1], [0] * 4, [9, 9], [5, 0, 0, 5]), [0])

    def test_all_sixteen_places_are_looked_at(self):
        for place in range(16):
            start = [0] * 16
            start[place] = 1
            self.assertEqual(tk_cannot(start, [0] * 32, [9] * 16, start), [1])
            self.assertEqual(tk_cannot(start, [0] * 32, [9] * 16, [0] * 16), [0])


class RulesOnBounds(unittest.TestCase):
    def test_rule_that_can_not_be_done_is_no_matter(self):
        # It takes one more than the bound, at one place, and would lead far out.
        self.assertEqual(tk_cannot([3], [4, 50], [9], [3]), [1])
        self.assertEqual(tk_cannot([1, 1], [2, 0, 50, 50], [9, 9], [1, 1]), [1])
        self.assertEqual(tk_cannot([1, 1], [0, 2, 50, 50], [9, 9], [1, 1]), [1])

    def test_rule_that_takes_just_the_bound(self):
        self.assertEqual(tk_cannot([3], [3, 50], [9], [3]), [0])
        self.assertEqual(tk_cannot([3], [3, 4], [9], [3]), [0])
        self.assertEqual(tk_cannot([3], [3, 3], [9], [3]), [1])
        self.assertEqual(tk_cannot([3], [3, 0], [9], [3]), [1])
        self.assertEqual(tk_cannot([1, 1], [1, 1, 50, 50], [9, 9], [1, 1]), [0])

    def test_rule_is_tried_from_the_bounds_not_from_start(self):
        # From start it can't be done, from other tokens within the bounds it can.
        self.assertEqual(tk_cannot([0], [3, 4], [9], [3]), [0])
        self.assertEqual(tk_cannot([0], [3, 4], [9], [2]), [1])

    def test_rule_is_tried_from_bounds_that_start_is_not_within(self):
        # The second bounds are reached by nothing, yet they are of the list.
        self.assertEqual(tk_cannot([0, 0], [0, 1, 0, 2], [9, 9], [0, 0, 0, 1]), [0])
        self.assertEqual(tk_cannot([0, 0], [0, 1, 0, 2], [9, 9], [0, 0]), [1])

    def test_what_a_rule_makes_lies_within_another(self):
        self.assertEqual(tk_cannot([1, 0], [1, 0, 0, 1], [1, 1], [1, 0, 0, 1]), [1])
        self.assertEqual(tk_cannot([1, 0], [1, 0, 0, 1], [1, 1], [0, 1, 1, 0]), [1])
        self.assertEqual(tk_cannot([1, 0], [1, 0, 0, 1], [1, 9], [1, 0, 0, 5]), [1])

    def test_what_a_rule_makes_lies_within_the_same(self):
        self.assertEqual(tk_cannot([1, 0], [1, 0, 1, 0], [2, 0], [1, 0]), [1])
        self.assertEqual(tk_cannot([2, 2], [1, 1, 1, 0], [3, 0], [2, 2]), [1])

    def test_what_a_rule_makes_lies_within_none(self):
        self.assertEqual(tk_cannot([1, 0], [1, 0, 0, 1], [1, 1], [1, 0]), [0])
        self.assertEqual(tk_cannot([1, 0], [1, 0, 0, 2], [1, 9], [1, 0, 0, 1]), [0])
        self.assertEqual(tk_cannot([0], [0, 1], [100], [0, 1, 2, 3]), [0])
        # Each place alone has room in one of the bounds, both have it in none.
        self.assertEqual(tk_cannot([1, 0], [1, 0, 1, 1], [3, 3], [1, 0, 0, 1]), [0])

    def test_one_rule_of_several_leads_out(self):
        fine = [0, 0, 0, 0]
        out = [0, 0, 1, 0]
        for where in range(3):
            rules = [fine, fine, fine]
            self.assertEqual(tk_cannot([1, 1], sum(rules, []), [2, 2], [1, 1]), [1])
            rules[where] = out
            self.assertEqual(tk_cannot([1, 1], sum(rules, []), [2, 2], [1, 1]), [0])

    def test_one_of_several_bounds_leads_out(self):
        # The rule needs 7 on place 0, which one of the bounds lets lie there.
        rules = [7, 0, 0, 9]
        self.assertEqual(tk_cannot([1, 1], rules, [9, 9], [1, 1, 2, 2, 3, 3]), [1])
        for where in range(3):
            listed = [1, 1, 2, 2, 3, 3]
            listed[2 * where] = 7
            self.assertEqual(tk_cannot([1, 1], rules, [9, 9], listed), [0])

    def test_takes_and_puts_all_at_once(self):
        self.assertEqual(tk_cannot([5], [5, 5], [6], [5]), [1])
        self.assertEqual(tk_cannot([5], [4, 5], [9], [5]), [0])

    def test_last_rule_of_sixty_four(self):
        rules = [0, 0] * 63
        self.assertEqual(tk_cannot([0], rules + [0, 0], [1], [0]), [1])
        self.assertEqual(tk_cannot([0], rules + [0, 1], [1], [0]), [0])


class NoBound(unittest.TestCase):
    def test_stays_none_whatever_is_taken_and_put(self):
        for taken, put in itertools.product((0, 1, 5, MOST - 1, MOST), repeat=2):
            rules = [taken, 0, put, 0]
            self.assertEqual(tk_cannot([0, 0], rules, [0, 1], [NONE, 0]), [1])

    def test_a_growing_place_needs_none(self):
        rules = [1, 0, 1, 1]
        self.assertEqual(tk_cannot([1, 0], rules, [2, 0], [1, NONE]), [1])
        self.assertEqual(tk_cannot([1, 0], rules, [2, 0], [1, MOST - 1]), [0])
        # Here it's put once only, so a bound will do, and none will do as well.
        self.assertEqual(tk_cannot([1, 0, 0], COUNTED, [0, 0, 2], [1, 0, 0, 0, 1, 1]), [1])
        self.assertEqual(tk_cannot([1, 0, 0], COUNTED, [2, 0, 0], [1, 0, NONE, 0, 1, NONE]), [1])

    def test_lies_only_within_no_bound(self):
        # The rule makes (0, none, 1) of the first bounds, for which the second alone may have room.
        rules = [1, 0, 0, 0, 0, 1]
        self.assertEqual(tk_cannot([1, 0, 0], rules, [2, 0, 0], [1, NONE, 0, 0, NONE, 1]), [1])
        self.assertEqual(tk_cannot([1, 0, 0], rules, [2, 0, 0], [1, NONE, 0, 0, MOST - 1, 1]), [0])

    def test_taken_from_no_bound_does_not_make_a_bound(self):
        # Were none the number, taking MOST would leave 0.
        rules = [1, MOST, 0, 0, 0, 1]
        self.assertEqual(tk_cannot([1, 0, 0], rules, [2, 0, 0], [1, NONE, 0, 0, 0, 1]), [0])
        self.assertEqual(tk_cannot([1, 0, 0], rules, [2, 0, 0], [1, NONE, 0, 0, NONE, 1]), [1])

    def test_a_rule_can_always_be_done_from_no_bound(self):
        self.assertEqual(tk_cannot([0, 0], [MOST, 0, 0, 1], [0, 9], [NONE, 5]), [0])
        self.assertEqual(tk_cannot([0, 0], [MOST, 0, 0, 1], [0, 9], [MOST - 1, 5]), [1])

    def test_goal_is_never_more_than_no_bound(self):
        for goal in (0, 1, MOST - 1, MOST):
            self.assertEqual(tk_cannot([0], [0, 1], [goal], [NONE]), [0])
        self.assertEqual(tk_cannot([0], [0, 0], [MOST], [MOST - 1]), [1])
        self.assertEqual(tk_cannot([0], [0, 0], [MOST - 1], [MOST - 1]), [0])
        self.assertEqual(tk_cannot([0, 0], [0] * 4, [MOST, 0], [NONE, 0]), [0])
        self.assertEqual(tk_cannot([0, 0], [0] * 4, [MOST, 1], [NONE, 0]), [1])

    def test_start_of_the_greatest_number(self):
        self.assertEqual(tk_cannot([MOST, 0], [0] * 4, [0, 1], [NONE, 0]), [1])
        self.assertEqual(tk_cannot([MOST, 0], [0] * 4, [0, 1], [MOST - 1, 0]), [0])
        self.assertEqual(tk_cannot([MOST - 1, 0], [0] * 4, [0, 1], [MOST - 1, 0]), [1])

    def test_a_bound_that_grows_as_great_as_that(self):
        for put in (1, 2, MOST - 1, MOST):
            rules = [0, 1, put, 0]
            within = [MOST - 1, 1, NONE, 0]
            self.assertEqual(tk_cannot([0, 1], rules, [0, 2], within), [1])
            self.assertEqual(tk_cannot([0, 1], rules, [0, 2], [MOST - 1, 1, MOST - 1, 0]), [0])
        self.assertEqual(tk_cannot([0, 1], [0, 1, 0, 0], [0, 2], [MOST - 1, 1, MOST - 1, 0]), [1])
        self.assertEqual(tk_cannot([0, 1], [1, 1, 1, 0], [0, 2], [MOST - 1, 1, MOST - 1, 0]), [1])
        # Taken first and then put: what comes out counts, not what is put.
        self.assertEqual(tk_cannot([0, 1], [MOST - 1, 1, MOST - 1, 0], [0, 2], [MOST - 1, 1, MOST - 1, 0]), [1])
        self.assertEqual(tk_cannot([0, 1], [MOST - 1, 1, MOST, 0], [0, 2], [MOST - 1, 1, MOST - 1, 0]), [0])
        self.assertEqual(tk_cannot([0, 1], [MOST - 1, 1, MOST, 0], [0, 2], [MOST - 1, 1, NONE, 0]), [1])

    def test_a_number_lies_within_no_bound(self):
        self.assertEqual(tk_cannot([5, 1], [0, 1, 3, 0], [0, 2], [5, 1, NONE, 0]), [1])


class AgainstTheWords(unittest.TestCase):
    """Every answer against the words of the document, read off one by one."""

    def check(self, start, rules, goal, bounds):
        n = len(start)
        beyond = all(
            any(one != NONE and goal[place] > one for place, one in enumerate(each))
            for each in pieces(bounds, n)
        )
        wanted = 1 if holds_by_words(start, rules, bounds) and beyond else 0
        self.assertEqual(tk_cannot(start, rules, goal, bounds), [wanted], (start, rules, goal, bounds))
        return wanted

    def test_every_small_net_of_one_place(self):
        seen = {0: 0, 1: 0}
        for taken, put, start, goal in itertools.product(range(3), repeat=4):
            for c in range(3):
                for bounds in itertools.product((0, 1, 2, NONE), repeat=c):
                    seen[self.check([start], [taken, put], [goal], list(bounds))] += 1
        self.assertGreater(min(seen.values()), 50)

    def test_chosen_nets_of_several_places(self):
        seen = {0: 0, 1: 0}
        chance = random.Random(20261116)
        for turn in range(20000):
            n = chance.choice((1, 2, 2, 3))
            start = [chance.choice((0, 0, 1, 2)) for place in range(n)]
            goal = [chance.choice((0, 1, 2, 3, 4, MOST)) for place in range(n)]
            numbers = 2 * n * chance.choice((1, 1, 2, 3))
            rules = [chance.choice((0, 0, 0, 1, 1, 2, MOST)) for number in range(numbers)]
            c = chance.choice((1, 2, 3, 5, 8))
            bounds = [chance.choice((0, 1, 2, 3, MOST - 1, NONE, NONE)) for number in range(n * c)]
            seen[self.check(start, rules, goal, bounds)] += 1
        self.assertGreater(min(seen.values()), 100)


class LongLists(unittest.TestCase):
    def test_many_different_bounds(self):
        c = 30000
        rules = [1, 0]
        self.assertEqual(tk_cannot([c - 1], rules, [c], list(range(c))), [1])
        self.assertEqual(tk_cannot([c], rules, [c], list(range(c))), [0])
        c = 15000
        listed = []
        for x in range(c):
            listed += [x, c - 1 - x]
        self.assertEqual(tk_cannot([c - 1, 0], THERE_AND_BACK, [c, 0], listed), [1])
        self.assertEqual(tk_cannot([c - 1, 0], THERE_AND_BACK, [c, 0], listed[:-2]), [0])
        self.assertEqual(tk_cannot([c - 1, 0], THERE_AND_BACK, [c, 0], listed[2:]), [0])


class OutOfRange(NetEdges, unittest.TestCase):
    def ask(self, start, rules):
        return tk_cannot(start, rules, [1] * len(start), [0] * len(start))

    def test_no_places_whatever_the_bounds(self):
        for rules in ([], [1], [1, 2]):
            for bounds in ([], [0], [1, 2, 3]):
                self.assertEqual(tk_cannot([], rules, [], bounds), [-22])

    def test_no_rules_whatever_the_bounds(self):
        for bounds in ([], [0], [5, NONE]):
            self.assertEqual(tk_cannot([0], [], [1], bounds), [-22])

    def test_sixteen_places_and_sixty_four_rules(self):
        rules = ([0] * 15 + [1] + [0] * 16) * 64
        self.assertEqual(tk_cannot([1] * 16, rules, [0] * 15 + [2], [1] * 16), [1])
        self.assertEqual(tk_cannot([1] * 16, rules, [0] * 15 + [1], [1] * 16), [0])

    def test_longest_list(self):
        c = 65536
        for n in (1, 2):
            start = [0] * n
            rules = free_rules(n, 1)
            self.assertEqual(tk_cannot(start, rules, [1] * n, [0] * (n * c)), [1])
            self.assertEqual(tk_cannot(start, rules, [1] * n, [0] * (n * c + n)), [-22])
            # Too long comes ahead of whether it holds.
            self.assertEqual(tk_cannot([9] * n, rules, [0] * n, [0] * (n * c + n)), [-22])


class HowItIsCalled(EveryCall, unittest.TestCase):
    answer = staticmethod(tk_cannot)
    calls = (
        ([2, 0], THERE_AND_BACK, [3, 0], [2, 0, 1, 1, 0, 2]),
        ([2, 0], THERE_AND_BACK, [1, 1], [2, 0, 1, 1, 0, 2]),
        ([2, 0], THERE_AND_BACK, [3, 0], [2, 0, 1, 1]),
        ([2, 0], THERE_AND_BACK, [3, 0], []),
        ([1, 0, 0], COUNTED, [2, 0, 0], [1, 1, NONE]),
        ([0], [], [1], [0]),
        ([], [1, 2], [], [0]),
    )

    def test_names_of_arguments(self):
        self.assertEqual(tk_cannot(start=[1], rules=[1, 0], goal=[2], bounds=[1]), [1])


if __name__ == "__main__":
    unittest.main()
