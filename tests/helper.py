"""What the tests of several functions share."""

import contextlib
import copy
import io
import math

MOST = 4294967295


def free_rules(n, k):
    """k rules over n places that can always be done: rule r puts r on place 0."""
    rules = []
    for r in range(k):
        rules += [0] * n + [r] + [0] * (n - 1)
    return rules


def pieces(numbers, n):
    """A flat list, cut into lists of n numbers each."""
    return [numbers[first:first + n] for first in range(0, len(numbers), n)]


def holds_by_words(start, rules, bounds):
    """Whether the list of bounds holds, as the document's words say it; no bound is None here."""
    n = len(start)
    listed = [[None if one == MOST else one for one in each] for each in pieces(bounds, n)]

    def within_some(amounts):
        return any(
            all(one is None or (amount is not None and amount <= one) for amount, one in zip(amounts, each))
            for each in listed
        )

    if not within_some(start):
        return False
    for each in listed:
        for rule in pieces(rules, 2 * n):
            takes, puts = rule[:n], rule[n:]
            if all(one is None or taken <= one for taken, one in zip(takes, each)):
                made = [None if one is None else one - taken + put for one, taken, put in zip(each, takes, puts)]
                if not within_some(made):
                    return False
    return True


def way_by_words(start, rules, way):
    """What lies at the end of way, as the document's words say it, or None; ever more is infinity here."""
    n = len(start)
    gone = [start]
    for entry in way:
        now = gone[-1]
        if entry < 64:
            takes, puts = rules[2 * n * entry:][:n], rules[2 * n * entry + n:][:n]
            if any(there < taken for there, taken in zip(now, takes)):
                return None
            # Whatever is added to infinity, it stays infinity.
            gone.append([there - taken + put for there, taken, put in zip(now, takes, puts)])
        elif entry - 64 > len(gone) - 1:
            return None
        else:
            then = gone[entry - 64]
            if any(there < lay for there, lay in zip(now, then)):
                return None
            gone.append([math.inf if there > lay else there for there, lay in zip(now, then)])
    return gone[-1]


class Untouchable(list):
    """A list that can't be changed, not for a while either."""

    def refuse(self, *args, **kwargs):
        raise AssertionError("what is handed in was changed")

    __setitem__ = __delitem__ = __iadd__ = __imul__ = refuse
    append = extend = insert = pop = remove = clear = sort = reverse = refuse


def guarded(value):
    """The value as it is handed in where it must not be changed."""
    return Untouchable(value) if isinstance(value, list) else value


class EveryCall:
    """What holds of each function, however it answers: give answer, the function, and calls, its arguments."""

    def test_what_is_handed_in_is_not_changed(self):
        for call in self.calls:
            given = tuple(guarded(value) for value in call)
            kept = copy.deepcopy(call)
            self.answer(*given)
            self.assertEqual(given, kept)

    def test_twice_alike(self):
        for call in self.calls:
            first = self.answer(*call)
            kept = list(first)
            # What the caller does with an answer must not reach the next one.
            first.append(99)
            first[0] = 99
            self.assertEqual(self.answer(*call), kept)

    def test_calls_between_do_not_matter(self):
        wanted = [self.answer(*call) for call in self.calls]
        backwards = [self.answer(*call) for call in reversed(self.calls)]
        self.assertEqual(wanted, backwards[::-1])

    def test_kinds(self):
        for call in self.calls:
            answer = self.answer(*call)
            self.assertIs(type(answer), list)
            self.assertEqual({type(number) for number in answer}, {int})

    def test_prints_nothing(self):
        said = io.StringIO()
        with contextlib.redirect_stdout(said), contextlib.redirect_stderr(said):
            for call in self.calls:
                self.answer(*call)
        self.assertEqual(said.getvalue(), "")


class NetEdges:
    """Which nets are refused. Give ask(start, rules), a call whose other inputs are fine for n of 1 or more."""

    def test_no_places(self):
        for rules in ([], [1], [0, 0], [1, 2, 3, 4]):
            self.assertEqual(self.ask([], rules), [-22])

    def test_sixteen_and_seventeen_places(self):
        for n in (1, 2, 15, 16):
            for k in (1, 2, 64):
                self.assertIn(self.ask([0] * n, free_rules(n, k)), ([0], [1]))
        for n in (17, 18, 20):
            for k in (0, 1, 2, 64):
                self.assertEqual(self.ask([0] * n, free_rules(n, k)), [-22])

    def test_no_rules(self):
        for n in (1, 2, 16):
            self.assertEqual(self.ask([0] * n, []), [-22])

    def test_sixty_four_and_sixty_five_rules(self):
        for n in (1, 2, 16):
            self.assertIn(self.ask([0] * n, free_rules(n, 64)), ([0], [1]))
            self.assertEqual(self.ask([0] * n, free_rules(n, 65)), [-22])
            self.assertEqual(self.ask([0] * n, free_rules(n, 66)), [-22])
