"""What holds over the whole program: what is shown one way is never shown the other way."""

import itertools
import math
import random
import unittest

from tests.helper import MOST, pieces
from tokenways.checks import tk_bounded, tk_can, tk_cannot, tk_grows, tk_run

NONE = MOST


def small_net(chance):
    n = chance.choice((1, 2, 2, 3))
    k = chance.choice((1, 2, 3))
    start = [chance.choice((0, 0, 1, 2)) for place in range(n)]
    rules = [chance.choice((0, 0, 0, 1, 1, 2)) for number in range(2 * n * k)]
    return start, rules


def small_net_place_and_row(chance):
    start, rules = small_net(chance)
    n = len(start)
    k = len(rules) // (2 * n)
    p = chance.randrange(n)
    row = [chance.randrange(k) for entry in range(chance.choice((1, 2, 3)))]
    return start, rules, p, row


def rows_up_to(k, longest):
    for m in range(longest + 1):
        for row in itertools.product(range(k), repeat=m):
            yield list(row)


def grown(now, before):
    """What a look back makes of now, or None where less lies somewhere."""
    if any(there < lay for there, lay in zip(now, before)):
        return None
    return [math.inf if there > lay else there for there, lay in zip(now, before)]


def all_looked_back(gone, way):
    """Goes on with the way by every look back that changes something."""
    changed = True
    while changed:
        changed = False
        for j in range(len(gone)):
            made = grown(gone[-1], gone[j])
            if made is not None and made != gone[-1]:
                gone, way, changed = gone + [made], way + [64 + j], True
                break
    return gone, way


def search(start, rules):
    """Every state that is come to, with ever more wherever a look back gives it: {state: way}.

    A branch ends where the same state has been come to before.
    """
    n = len(start)
    found = {tuple(start): []}
    open_ends = [([start], [])]
    while open_ends:
        gone, way = open_ends.pop()
        for number, rule in enumerate(pieces(rules, 2 * n)):
            if all(taken <= there for taken, there in zip(rule, gone[-1])):
                made = [there - taken + put for there, taken, put in zip(gone[-1], rule, rule[n:])]
                after, longer = all_looked_back(gone + [made], way + [number])
                if tuple(after[-1]) not in found:
                    found[tuple(after[-1])] = longer
                    open_ends.append((after, longer))
    return found


def as_list(found):
    return [NONE if one == math.inf else one for state in found for one in state]


def row_to(start, rules, goal, longest):
    """A row that brings goal about, or None if none is found."""
    seen = {tuple(start)}
    ends = [(start, [])]
    k = len(rules) // (2 * len(start))
    for m in range(longest + 1):
        for there, row in ends:
            if all(lies >= asked for lies, asked in zip(there, goal)):
                return row
        further = []
        for there, row in ends:
            for rule in range(k):
                answer = tk_run(there, rules, [rule])
                if answer[0] == 0 and tuple(answer[1:]) not in seen:
                    seen.add(tuple(answer[1:]))
                    further.append((answer[1:], row + [rule]))
        ends = further
    return None


class NeverBoth(unittest.TestCase):
    def test_where_it_can_not_no_row_does(self):
        shown = 0
        chance = random.Random(5)
        for turn in range(1500):
            start, rules = small_net(chance)
            n = len(start)
            goal = [chance.choice((0, 1, 2, 3, 5)) for place in range(n)]
            lists = [[chance.choice((0, 1, 2, 3, NONE)) for number in range(n * c)] for c in (1, 1, 2, 3, 4)]
            if any(tk_cannot(start, rules, goal, bounds) == [1] for bounds in lists):
                shown += 1
                for row in rows_up_to(len(rules) // (2 * n), 5):
                    self.assertEqual(tk_can(start, rules, goal, row), [0], (start, rules, goal, row))
        self.assertGreater(shown, 50)

    def test_where_it_grows_no_list_bounds_it(self):
        shown = 0
        chance = random.Random(6)
        for turn in range(3000):
            start, rules, p, row = small_net_place_and_row(chance)
            n = len(start)
            if any(tk_grows(p, start, rules, row + [64 + j]) == [1] for j in range(len(row))):
                shown += 1
                for c in (1, 1, 1, 2, 3, 5):
                    bounds = [chance.choice((0, 1, 2, 3, MOST - 1, NONE)) for number in range(n * c)]
                    self.assertEqual(tk_bounded(p, start, rules, bounds), [0], (p, start, rules, bounds))
        self.assertGreater(shown, 50)


class OneOfThem(unittest.TestCase):
    """At small nets all that can come about is searched through: one of the two is then always shown."""

    def test_can_or_can_not(self):
        can = 0
        can_not = 0
        chance = random.Random(7)
        for turn in range(400):
            start, rules = small_net(chance)
            found = search(start, rules)
            bounds = as_list(found)
            for goal in itertools.product(range(4), repeat=len(start)):
                goal = list(goal)
                row = row_to(start, rules, goal, 6)
                if row is not None:
                    can += 1
                    self.assertEqual(tk_can(start, rules, goal, row), [1])
                    self.assertEqual(tk_cannot(start, rules, goal, bounds), [0])
                elif not any(all(one >= asked for one, asked in zip(state, goal)) for state in found):
                    can_not += 1
                    self.assertEqual(tk_cannot(start, rules, goal, bounds), [1], (start, rules, goal, bounds))
        self.assertGreater(can, 500)
        self.assertGreater(can_not, 500)

    def test_grows_or_bounded(self):
        grows = 0
        bounded = 0
        chance = random.Random(8)
        for turn in range(1500):
            start, rules = small_net(chance)
            found = search(start, rules)
            bounds = as_list(found)
            for p in range(len(start)):
                ways = [way for state, way in found.items() if state[p] == math.inf]
                for way in ways:
                    self.assertEqual(tk_grows(p, start, rules, way), [1], (p, start, rules, way))
                grows += 1 if ways else 0
                bounded += 0 if ways else 1
                self.assertEqual(tk_bounded(p, start, rules, bounds), [0 if ways else 1], (p, start, rules, bounds))
        self.assertGreater(grows, 500)
        self.assertGreater(bounded, 500)

    def test_where_a_way_shows_that_it_grows_rows_bring_more_and_more(self):
        tried = 0
        chance = random.Random(9)
        for turn in range(300):
            start, rules, p, row = small_net_place_and_row(chance)
            n = len(start)
            if tk_grows(p, start, rules, row + [64]) == [1]:
                tried += 1
                for rounds in (1, 10, 100):
                    goal = [0] * n
                    goal[p] = start[p] + rounds
                    self.assertEqual(tk_can(start, rules, goal, row * rounds), [1])
        self.assertGreater(tried, 20)


if __name__ == "__main__":
    unittest.main()
