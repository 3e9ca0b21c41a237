"""Promise 4, tk_grows, and the refusals ahead of it."""

import itertools
import math
import random
import unittest

from tests.helper import MOST, EveryCall, NetEdges, free_rules, way_by_words
from tokenways.checks import EVER_MORE, after_entry, tk_grows

# One place: rule 0 puts one, rule 1 takes one, rule 2 needs five and puts them back.
ONE_PLACE = [0, 1, 1, 0, 5, 5]

# Two places: rule 0 puts one on place 0, rule 1 turns one on place 0 into
# two on place 1, rule 2 takes one from place 1, rule 3 moves one from place 0 to 1.
TWO_PLACES = [
    0, 0, 1, 0,
    1, 0, 0, 2,
    0, 1, 0, 0,
    1, 0, 0, 1,
]


def back(j):
    """The entry that looks back to what lay after the first j entries."""
    return 64 + j


class OrdinaryWays(unittest.TestCase):
    def test_one_rule_and_one_look_back(self):
        self.assertEqual(tk_grows(0, [0], ONE_PLACE, [0, back(0)]), [1])
        self.assertEqual(tk_grows(0, [7], ONE_PLACE, [0, back(0)]), [1])

    def test_without_a_look_back_nothing_is_ever_more(self):
        self.assertEqual(tk_grows(0, [0], ONE_PLACE, [0]), [0])
        self.assertEqual(tk_grows(0, [0], ONE_PLACE, [0] * 50), [0])

    def test_empty_way(self):
        self.assertEqual(tk_grows(0, [0], ONE_PLACE, []), [0])
        self.assertEqual(tk_grows(0, [MOST], ONE_PLACE, []), [0])
        self.assertEqual(tk_grows(1, [3, 3], TWO_PLACES, []), [0])

    def test_a_place_that_does_not_grow(self):
        self.assertEqual(tk_grows(0, [0, 0], TWO_PLACES, [0, back(0)]), [1])
        self.assertEqual(tk_grows(1, [0, 0], TWO_PLACES, [0, back(0)]), [0])

    def test_several_looks_back(self):
        # Place 0 is ever more, so rule 1 can be done, and then place 1 grows too.
        way = [0, back(0), 1, back(2)]
        self.assertEqual(tk_grows(0, [0, 0], TWO_PLACES, way), [1])
        self.assertEqual(tk_grows(1, [0, 0], TWO_PLACES, way), [1])
        self.assertEqual(tk_grows(1, [0, 0], TWO_PLACES, way[:3]), [0])

    def test_back_to_start_and_to_a_later_point(self):
        # 5, 4, 5, 6 lie there: more than after the first, more than at start.
        self.assertEqual(tk_grows(0, [5], ONE_PLACE, [1, 0, 0, back(0)]), [1])
        self.assertEqual(tk_grows(0, [5], ONE_PLACE, [1, 0, 0, back(1)]), [1])
        self.assertEqual(tk_grows(0, [5], ONE_PLACE, [1, 0, 0, back(2)]), [1])
        self.assertEqual(tk_grows(0, [5], ONE_PLACE, [1, 0, 0, back(3)]), [0])
        # 5, 4, 5 lie there: as many as at start, more than after the first.
        self.assertEqual(tk_grows(0, [5], ONE_PLACE, [1, 0, back(0)]), [0])
        self.assertEqual(tk_grows(0, [5], ONE_PLACE, [1, 0, back(1)]), [1])

    def test_back_to_what_lies_right_now(self):
        self.assertEqual(tk_grows(0, [5], ONE_PLACE, [back(0)]), [0])
        self.assertEqual(tk_grows(0, [5], ONE_PLACE, [0, back(1)]), [0])
        self.assertEqual(tk_grows(0, [5], ONE_PLACE, [0, 0, back(2)]), [0])
        # It changes nothing, so the way can be gone on.
        self.assertEqual(tk_grows(0, [5], ONE_PLACE, [back(0), 0, back(2), back(0)]), [1])

    def test_a_look_back_counts_as_an_entry(self):
        # After 1 entry and after 2 as many lie there; after 3 one more.
        way = [0, back(1), 0]
        self.assertEqual(tk_grows(0, [0], ONE_PLACE, way + [back(1)]), [1])
        self.assertEqual(tk_grows(0, [0], ONE_PLACE, way + [back(2)]), [1])
        self.assertEqual(tk_grows(0, [0], ONE_PLACE, way + [back(3)]), [0])

    def test_several_places(self):
        # 1, 0, 0 comes round by three rules and brings one to place 3 by each round.
        rules = [
            1, 0, 0, 0, 0, 1, 0, 0,
            0, 1, 0, 0, 0, 0, 1, 0,
            0, 0, 1, 0, 1, 0, 0, 1,
        ]
        way = [0, 1, 2, back(0)]
        self.assertEqual(tk_grows(3, [1, 0, 0, 0], rules, way), [1])
        for p in range(3):
            self.assertEqual(tk_grows(p, [1, 0, 0, 0], rules, way), [0])
        self.assertEqual(tk_grows(3, [1, 0, 0, 0], rules, [0, 1, back(0)]), [0])

    def test_all_sixteen_places_are_looked_at(self):
        for place in range(16):
            rules = [0] * 32
            rules[16 + place] = 1
            for p in range(16):
                self.assertEqual(tk_grows(p, [0] * 16, rules, [0, back(0)]), [1 if p == place else 0])


class WaysThatCanNotBeGone(unittest.TestCase):
    def test_a_rule_that_can_not_be_done(self):
        self.assertEqual(tk_grows(0, [0], ONE_PLACE, [1]), [0])
        self.assertEqual(tk_grows(0, [0], ONE_PLACE, [1, 0, 0, back(0)]), [0])
        self.assertEqual(tk_grows(0, [0], ONE_PLACE, [0, 1, 1, 0, 0, back(0)]), [0])
        self.assertEqual(tk_grows(0, [4], ONE_PLACE, [2, 0, back(1)]), [0])
        self.assertEqual(tk_grows(0, [5], ONE_PLACE, [2, 0, back(1)]), [1])

    def test_behind_ever_more(self):
        way = [0, back(0)]
        self.assertEqual(tk_grows(0, [0, 0], TWO_PLACES, way), [1])
        # Place 1 is empty: rule 2 can't be done.
        self.assertEqual(tk_grows(0, [0, 0], TWO_PLACES, way + [2]), [0])
        # There are 2 entries before this one.
        self.assertEqual(tk_grows(0, [0, 0], TWO_PLACES, way + [back(2)]), [1])
        for entry in (back(3), back(4), 127, 128, 255, 256, MOST - 1, MOST):
            self.assertEqual(tk_grows(0, [0, 0], TWO_PLACES, way + [entry]), [0])
            self.assertEqual(tk_grows(0, [0, 0], TWO_PLACES, way + [entry, back(0)]), [0])
        # Less on place 1 than at start.
        self.assertEqual(tk_grows(0, [0, 1], TWO_PLACES, way + [2, back(2)]), [0])
        self.assertEqual(tk_grows(0, [0, 1], TWO_PLACES, way + [2, back(0)]), [0])
        self.assertEqual(tk_grows(0, [0, 1], TWO_PLACES, way + [2, back(3)]), [1])

    def test_back_to_where_more_lay(self):
        self.assertEqual(tk_grows(0, [5], ONE_PLACE, [1, back(0)]), [0])
        self.assertEqual(tk_grows(0, [5], ONE_PLACE, [1, back(0), 0, 0, back(0)]), [0])
        # On place 1 lies more than at start, on place 0 less.
        self.assertEqual(tk_grows(1, [1, 0], TWO_PLACES, [1, back(0)]), [0])
        self.assertEqual(tk_grows(1, [1, 0], TWO_PLACES, [1, 0, back(0)]), [1])
        for place in range(4):
            rules = [0, 0, 0, 0, 9, 9, 9, 9]
            rules[place], rules[4 + place] = 1, 0
            for p in range(4):
                self.assertEqual(tk_grows(p, [1, 1, 1, 1], rules, [0, back(0)]), [0])

    def test_back_to_more_entries_than_there_were(self):
        self.assertEqual(tk_grows(0, [0], ONE_PLACE, [back(1)]), [0])
        self.assertEqual(tk_grows(0, [0], ONE_PLACE, [back(1), 0, back(0)]), [0])
        self.assertEqual(tk_grows(0, [0], ONE_PLACE, [back(0), 0, back(0)]), [1])
        self.assertEqual(tk_grows(0, [0], ONE_PLACE, [0, back(2), 0, back(0)]), [0])
        self.assertEqual(tk_grows(0, [0], ONE_PLACE, [0, back(1), 0, back(0)]), [1])
        for entry in (66, 127, 255, 65536, 65600, 2 ** 31, MOST):
            self.assertEqual(tk_grows(0, [0], ONE_PLACE, [0, entry, back(0)]), [0])
            self.assertEqual(tk_grows(0, [0], ONE_PLACE, [entry]), [0])


class EverMore(unittest.TestCase):
    def test_enough_for_whatever_a_rule_takes(self):
        for taken in (0, 1, 1000, MOST):
            rules = [0, 1, taken, 0]
            self.assertEqual(tk_grows(0, [0], rules, [0, back(0), 1]), [1])
            self.assertEqual(tk_grows(0, [0], rules, [0, back(0)] + [1] * 100), [1])

    def test_stays_so_whatever_a_rule_takes_and_puts(self):
        for taken, put in itertools.product((0, 1, 2, MOST), repeat=2):
            rules = [0, 1, taken, put]
            # It's neither more nor less than itself, and more than any number.
            for last in ([], [back(2)], [back(3)], [back(0)], [back(1)]):
                self.assertEqual(tk_grows(0, [0], rules, [0, back(0), 1] + last), [1])

    def test_after_taking_it_is_not_less_than_ever_more(self):
        way = [0, back(0), 1, 1, back(2)]
        self.assertEqual(tk_grows(0, [0], ONE_PLACE, way), [1])

    def test_after_putting_it_is_not_more_than_ever_more(self):
        # Rule 0 puts on place 0 alone: looked back at, place 1 stays at its number.
        way = [0, back(0), 0, back(2)]
        self.assertEqual(tk_grows(0, [0, 3], TWO_PLACES, way), [1])
        self.assertEqual(tk_grows(1, [0, 3], TWO_PLACES, way), [0])

    def test_from_ever_more_to_a_number(self):
        self.assertEqual(tk_grows(0, [0], ONE_PLACE, [0, back(0), back(0)]), [1])
        self.assertEqual(tk_grows(0, [0], ONE_PLACE, [0, back(0), back(1)]), [1])
        # Greater numbers than were looked back to at first.
        self.assertEqual(tk_grows(0, [MOST], [0, MOST], [0, 0, 0, back(0), back(3)]), [1])

    def test_a_look_back_does_not_change_what_lay(self):
        # After 1 entry a number lay there, though ever more came of it: it's still less.
        way = [0, back(0), 1, back(1)]
        self.assertEqual(tk_grows(0, [0, 0], TWO_PLACES, way), [1])
        self.assertEqual(tk_grows(1, [0, 0], TWO_PLACES, way), [1])

    def test_from_ever_more_to_ever_more(self):
        self.assertEqual(tk_grows(0, [0], ONE_PLACE, [0, back(0), back(2)]), [1])
        self.assertEqual(tk_grows(0, [0], ONE_PLACE, [0, back(0), 1, back(2), back(3)]), [1])

    def test_from_a_number_to_ever_more(self):
        # Ever more stays, so no way comes from it to a number: the step is asked by itself.
        self.assertIsNone(after_entry([[EVER_MORE], [5]], ONE_PLACE, back(0)))
        self.assertIsNone(after_entry([[EVER_MORE, 0], [EVER_MORE, 0], [2 ** 49, 9]], TWO_PLACES, back(1)))
        self.assertEqual(after_entry([[5], [EVER_MORE]], ONE_PLACE, back(0)), [EVER_MORE])

    def test_where_just_as_many_lie_nothing_changes(self):
        # Rule 3 moves one over: place 0 back as it was, place 1 one more.
        way = [0, 3, back(0)]
        self.assertEqual(tk_grows(1, [2, 0], TWO_PLACES, way), [1])
        self.assertEqual(tk_grows(0, [2, 0], TWO_PLACES, way), [0])
        # Place 0 is still a number: it can be used up.
        self.assertEqual(tk_grows(1, [2, 0], TWO_PLACES, way + [3, 3]), [1])
        self.assertEqual(tk_grows(1, [2, 0], TWO_PLACES, way + [3, 3, 3]), [0])

    def test_stays_at_other_places_numbers(self):
        # Place 0 is ever more; place 1 has what rule 1 put, two each time, to be taken one by one.
        way = [0, back(0), 1, 1]
        self.assertEqual(tk_grows(0, [0, 0], TWO_PLACES, way + [2] * 4), [1])
        self.assertEqual(tk_grows(0, [0, 0], TWO_PLACES, way + [2] * 5), [0])


class GreatNumbers(unittest.TestCase):
    def test_greatest_number_is_a_number_of_tokens(self):
        self.assertEqual(tk_grows(0, [MOST], [0, 0], [0, back(0)]), [0])
        self.assertEqual(tk_grows(0, [MOST], [MOST, 0, 1, 0], [0]), [0])
        self.assertEqual(tk_grows(0, [MOST], [MOST, 0, 0, 1], [0, 1, back(1)]), [1])
        self.assertEqual(tk_grows(0, [MOST], [MOST, 0, 0, 1], [0, 0, 1, back(1)]), [0])
        self.assertEqual(tk_grows(0, [MOST], [1, 0], [0, back(0)]), [0])
        self.assertEqual(tk_grows(0, [MOST], [0, 1], [0, back(0)]), [1])
        self.assertEqual(tk_grows(0, [0], [0, MOST], [0]), [0])

    def test_sums_beyond_two_to_the_32(self):
        rules = [0, MOST, MOST, 0, 1, 0]
        for rounds in (1, 2, 3, 1000):
            up = [0] * rounds
            self.assertEqual(tk_grows(0, [MOST], rules, up), [0])
            self.assertEqual(tk_grows(0, [MOST], rules, up + [back(0)]), [1])
            # All of it can be taken, and no more.
            down = [1] * (rounds + 1)
            self.assertEqual(tk_grows(0, [MOST], rules, up + down + [back(len(up + down))]), [0])
            self.assertEqual(tk_grows(0, [MOST], rules, up + down + [2, 0, back(0)]), [0])
            self.assertEqual(tk_grows(0, [MOST], rules, up + down + [0, back(len(up + down))]), [1])
        # 2^32 tokens: cut to 32 bits that would be none.
        self.assertEqual(tk_grows(0, [MOST], [0, 1], [0, back(0)]), [1])

    def test_long_way(self):
        m = 29999
        self.assertEqual(tk_grows(0, [0], [0, MOST], [0] * m), [0])
        self.assertEqual(tk_grows(0, [0], [0, MOST], [0] * m + [back(m - 1)]), [1])
        self.assertEqual(tk_grows(0, [0], [0, MOST], [0] * m + [back(m)]), [0])
        self.assertEqual(tk_grows(0, [0], [0, MOST], [0] * m + [back(m + 1)]), [0])
        self.assertEqual(tk_grows(15, [1] * 16, [1] * 31 + [2], [0] * m + [back(0)]), [1])


class AgainstTheWords(unittest.TestCase):
    """Every answer against the words of the document, read off one by one."""

    def check(self, start, rules, way):
        there = way_by_words(start, rules, way)
        grown = 0
        for p in range(len(start)):
            wanted = 1 if there is not None and there[p] == math.inf else 0
            self.assertEqual(tk_grows(p, start, rules, way), [wanted], (p, start, rules, way))
            grown += wanted
        return grown

    def test_every_short_way_over_one_place(self):
        grown = 0
        for start, taken, put in itertools.product(range(3), repeat=3):
            for m in range(4):
                for way in itertools.product((0, 1, 64, 65, 66, 67), repeat=m):
                    grown += self.check([start], [taken, put, 0, 1], list(way))
        self.assertGreater(grown, 100)

    def test_chosen_ways_over_several_places(self):
        grown = 0
        chance = random.Random(20261116)
        for turn in range(20000):
            n = chance.choice((1, 2, 2, 3))
            k = chance.choice((1, 2, 3))
            start = [chance.choice((0, 1, 2, MOST)) for place in range(n)]
            rules = [chance.choice((0, 0, 0, 1, 1, 2, MOST)) for number in range(2 * n * k)]
            way = []
            for turn in range(chance.choice((2, 4, 6, 9))):
                looks = chance.random() < 0.4
                way.append(back(chance.randrange(len(way) + 1)) if looks else chance.randrange(k))
            grown += self.check(start, rules, way)
        self.assertGreater(grown, 1000)


class OutOfRange(NetEdges, unittest.TestCase):
    def ask(self, start, rules):
        return tk_grows(0, start, rules, [])

    def test_no_places_whatever_the_way(self):
        for rules in ([], [1], [1, 2]):
            for way in ([], [0], [64], [MOST]):
                for p in (0, 1, MOST):
                    self.assertEqual(tk_grows(p, [], rules, way), [-22])

    def test_an_entry_that_is_no_rule(self):
        for n in (1, 3):
            for k in (1, 2, 5, 62, 63):
                rules = free_rules(n, k)
                self.assertEqual(tk_grows(0, [0] * n, rules, [k - 1]), [0])
                self.assertEqual(tk_grows(0, [0] * n, rules, [64]), [0])
                for entry in (k, 63):
                    self.assertEqual(tk_grows(0, [0] * n, rules, [entry]), [-22])
                    self.assertEqual(tk_grows(0, [0] * n, rules, [entry, 0, 64]), [-22])
                    self.assertEqual(tk_grows(0, [0] * n, rules, [0, entry, 64]), [-22])
                    self.assertEqual(tk_grows(0, [0] * n, rules, [0, 64, entry]), [-22])

    def test_sixty_four_rules(self):
        rules = free_rules(1, 64)
        self.assertEqual(tk_grows(0, [0], rules, [63, 64]), [1])
        self.assertEqual(tk_grows(0, [0], rules, [64, 64]), [0])
        self.assertEqual(tk_grows(0, [0], rules, [0, 64]), [0])

    def test_behind_where_the_way_can_not_be_gone_on(self):
        for stuck in ([1], [66], [MOST], [0, 1, 1], [0, 1, 65]):
            self.assertEqual(tk_grows(0, [0], ONE_PLACE, stuck), [0])
            self.assertEqual(tk_grows(0, [0], ONE_PLACE, stuck + [2]), [0])
            self.assertEqual(tk_grows(0, [0], ONE_PLACE, stuck + [3]), [-22])
            self.assertEqual(tk_grows(0, [0], ONE_PLACE, stuck + [0, 63]), [-22])

    def test_p_that_is_no_place(self):
        for n in (1, 2, 16):
            rules = [0] * n + [1] * n
            for way in ([0, 64], [], [MOST], [0]):
                self.assertEqual(tk_grows(n - 1, [0] * n, rules, way), [1 if way == [0, 64] else 0])
                for p in (n, n + 1, 17, MOST):
                    self.assertEqual(tk_grows(p, [0] * n, rules, way), [-22])

    def test_longest_way(self):
        m = 65536
        self.assertEqual(tk_grows(0, [0], [0, 1], [0] * (m - 1) + [64]), [1])
        self.assertEqual(tk_grows(0, [0], [0, 1], [0] * m + [64]), [-22])
        # Too long comes ahead of whether it can be gone.
        self.assertEqual(tk_grows(0, [0], [1, 0], [0] * m), [0])
        self.assertEqual(tk_grows(0, [0], [1, 0], [0] * (m + 1)), [-22])


class HowItIsCalled(EveryCall, unittest.TestCase):
    answer = staticmethod(tk_grows)
    calls = (
        (0, [0, 0], TWO_PLACES, [0, 64, 1, 66]),
        (1, [0, 0], TWO_PLACES, [0, 64, 1, 66]),
        (1, [0, 0], TWO_PLACES, [0, 64]),
        (1, [0, 0], TWO_PLACES, []),
        (0, [0, 0], TWO_PLACES, [0, 64, 2]),
        (0, [0, 0], TWO_PLACES, [4]),
        (2, [0, 0], TWO_PLACES, []),
        (0, [0], [], [64]),
        (0, [], [1, 2], [0]),
    )

    def test_names_of_arguments(self):
        self.assertEqual(tk_grows(p=0, start=[1], rules=[1, 4], way=[0, 64]), [1])


if __name__ == "__main__":
    unittest.main()
