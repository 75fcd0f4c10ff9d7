"""Points 1 to 3 of the promises, as far as they speak of far; what all calls refuse is in test_refusals."""

import itertools
import unittest

from gatherings import (
    LARGEST, REFUSED, everybody, many_gatherings, met_by_bits, met_in_a_round, pairs_of, ring, row,
    steps_from,
)
from introduced.guests import after, far

NO_SUCH_GUEST = [-2]
NO_STEPS = [-33]

# Behind how many rounds two know one another who are 0, 1, 2 .. 7 steps apart.
ROUNDS_BY_STEPS = (0, 0, 1, 2, 2, 3, 3, 3)


def rounds_till_each_two_know(n, met):
    """Behind how many rounds at least they do, for each two who ever will."""
    told = {}
    for number in itertools.count():
        for two in met:
            told.setdefault(two, number)
        later = met_in_a_round(n, met)
        if later == met:
            return told
        met = later


class FarTest(unittest.TestCase):
    def tells(self, n, i, j, l, answer):
        """Whether far tells this from i to j, and from j to i."""
        self.assertEqual(far(n, i, j, l), answer, (n, i, j, l))
        self.assertEqual(far(n, j, i, l), answer, (n, j, i, l))


class OrdinaryInputs(FarTest):
    def test_each_number_of_steps(self):
        self.tells(8, 3, 3, row(8), [0, 0])
        self.tells(8, 3, 4, row(8), [1, 0])
        self.tells(8, 3, 5, row(8), [2, 1])
        self.tells(8, 1, 4, row(8), [3, 2])
        self.tells(8, 2, 6, row(8), [4, 2])
        self.tells(8, 0, 5, row(8), [5, 3])
        self.tells(8, 1, 7, row(8), [6, 3])
        self.tells(8, 0, 7, row(8), [7, 3])

    def test_guests_numbered_out_of_their_row(self):
        shuffled = [5, 2, 2, 7, 0, 7, 0, 4, 6, 4, 6, 1, 3, 1]
        order = [5, 2, 7, 0, 4, 6, 1, 3]
        for first in range(8):
            for second in range(8):
                steps = abs(first - second)
                self.tells(8, order[first], order[second], shuffled, [steps, ROUNDS_BY_STEPS[steps]])

    def test_a_guest_to_himself(self):
        self.assertEqual(far(4, 1, 1, [0, 1, 1, 2]), [0, 0])
        self.assertEqual(far(4, 3, 3, [0, 1, 1, 2]), [0, 0])
        self.assertEqual(far(4, 0, 0, [1, 2, 2, 3]), [0, 0])

    def test_two_who_know_one_another(self):
        self.tells(4, 0, 3, [0, 3], [1, 0])
        self.tells(4, 0, 3, [3, 0], [1, 0])
        self.tells(8, 6, 7, [0, 1, 6, 7], [1, 0])

    def test_the_shortest_of_several_ways(self):
        long_way_first = [0, 1, 1, 2, 2, 3, 3, 4, 4, 5, 0, 6, 6, 5]
        short_way_first = [0, 6, 6, 5, 0, 1, 1, 2, 2, 3, 3, 4, 4, 5]
        for two_ways in (long_way_first, short_way_first):
            self.tells(7, 0, 5, two_ways, [2, 1])
            self.tells(7, 0, 4, two_ways, [3, 2])
            self.tells(7, 1, 4, two_ways, [3, 2])
            self.tells(7, 1, 5, two_ways, [3, 2])
            self.tells(7, 6, 3, two_ways, [3, 2])
        self.tells(6, 0, 5, row(6) + [0, 5], [1, 0])
        self.tells(6, 0, 5, row(6) + [1, 4], [3, 2])
        self.tells(8, 0, 7, row(8) + [3, 5], [6, 3])
        self.tells(8, 0, 7, row(8) + [1, 4], [5, 3])
        self.tells(8, 0, 7, row(8) + [5, 1], [4, 2])

    def test_others_do_not_matter(self):
        self.tells(8, 5, 7, [0, 1, 1, 2, 2, 3, 3, 4, 5, 6, 6, 7], [2, 1])
        self.tells(8, 0, 4, [0, 1, 1, 2, 2, 3, 3, 4, 5, 6, 6, 7], [4, 2])

    def test_many_gatherings(self):
        for n, l in many_gatherings():
            met = pairs_of(l)
            rounds_of = rounds_till_each_two_know(n, met)
            for i in range(n):
                steps = steps_from(n, met, i)
                for j in range(n):
                    told = [steps[j], rounds_of.get(frozenset((i, j)), 0)] if j in steps else NO_STEPS
                    self.assertEqual(far(n, i, j, l), told, (n, i, j, l))


class WhatHolds(unittest.TestCase):
    def test_behind_so_many_rounds_the_two_know_one_another_and_no_fewer(self):
        for n, l in many_gatherings():
            met_behind = [met_by_bits(after(n, k, l)[1:]) for k in range(6)]
            for i, j in itertools.permutations(range(n), 2):
                answer = far(n, i, j, l)
                if answer == NO_STEPS:
                    self.assertNotIn(frozenset((i, j)), met_behind[5], (n, i, j, l))
                    continue
                self.assertIn(frozenset((i, j)), met_behind[answer[1]], (n, i, j, l))
                if answer[1] > 0:
                    self.assertNotIn(frozenset((i, j)), met_behind[answer[1] - 1], (n, i, j, l))

    def test_so_many_rounds_as_the_steps_ask(self):
        for n, l in many_gatherings():
            for i, j in itertools.combinations(range(n), 2):
                answer = far(n, i, j, l)
                if answer != NO_STEPS:
                    self.assertEqual(answer[1], ROUNDS_BY_STEPS[answer[0]], (n, i, j, l))


class Corners(FarTest):
    def test_one_guest(self):
        self.assertEqual(far(1, 0, 0, []), [0, 0])
        self.assertEqual(far(1, 0, 1, []), NO_SUCH_GUEST)

    def test_nobody_knows_anybody(self):
        for n in range(1, 9):
            for i in range(n):
                for j in range(n):
                    self.assertEqual(far(n, i, j, []), [0, 0] if i == j else NO_STEPS)

    def test_all_in_a_row(self):
        for n in range(1, 9):
            for i in range(n):
                for j in range(n):
                    steps = abs(i - j)
                    self.tells(n, i, j, row(n), [steps, ROUNDS_BY_STEPS[steps]])
                    self.tells(n, i, j, row(n)[::-1], [steps, ROUNDS_BY_STEPS[steps]])

    def test_two_groups(self):
        two_rows = [0, 2, 2, 4, 4, 6, 1, 3, 3, 5, 5, 7]
        for i in range(8):
            for j in range(8):
                steps = abs(i - j) // 2
                answer = [steps, ROUNDS_BY_STEPS[steps]] if (i - j) % 2 == 0 else NO_STEPS
                self.assertEqual(far(8, i, j, two_rows), answer)

    def test_everybody_knows_everybody(self):
        for n in range(1, 9):
            for i in range(n):
                for j in range(n):
                    self.assertEqual(far(n, i, j, everybody(n)), [0, 0] if i == j else [1, 0])

    def test_eight_in_a_ring(self):
        answers = ([0, 0], [1, 0], [2, 1], [3, 2], [4, 2], [3, 2], [2, 1], [1, 0])
        for i in range(8):
            for further in range(8):
                self.tells(8, i, (i + further) % 8, ring(8), answers[further])


class PairsToldAgain(FarTest):
    def test_they_count_once(self):
        self.tells(3, 0, 1, [0, 1, 0, 1], [1, 0])
        self.tells(3, 0, 2, [0, 1, 0, 1, 1, 2, 1, 2], [2, 1])
        self.assertEqual(far(3, 0, 2, [0, 1, 0, 1]), NO_STEPS)

    def test_either_way_round(self):
        self.tells(3, 0, 2, [1, 0, 2, 1], [2, 1])
        self.tells(4, 0, 3, [0, 1, 1, 0, 2, 1, 1, 2, 3, 2], [3, 2])

    def test_28_told_are_allowed(self):
        self.tells(8, 0, 7, row(8) * 2 + row(8)[::-1] * 2, [7, 3])
        self.tells(2, 0, 1, [0, 1, 1, 0] * 14, [1, 0])
        self.tells(8, 2, 6, everybody(8), [1, 0])

    def test_29_and_30_told_are_refused(self):
        for l in (row(8) * 4 + [0, 1], row(8) * 4 + [0, 1, 1, 0], [0, 1] * 29, [1, 0] * 30):
            self.assertEqual(far(8, 0, 1, l), REFUSED)


class Refusals(unittest.TestCase):
    def test_there_is_no_such_guest(self):
        for n in range(1, 9):
            for missing in (n, n + 1, 8, 255, 256, LARGEST):
                for l in ([], row(n), everybody(n)):
                    self.assertEqual(far(n, missing, 0, l), NO_SUCH_GUEST)
                    self.assertEqual(far(n, 0, missing, l), NO_SUCH_GUEST)
                    self.assertEqual(far(n, missing, missing, l), NO_SUCH_GUEST)
        self.assertEqual(far(3, 3, LARGEST, [0, 1]), NO_SUCH_GUEST)
        self.assertEqual(far(3, LARGEST, 3, [0, 1]), NO_SUCH_GUEST)

    def test_the_last_guest_is_there(self):
        for n in range(1, 9):
            self.assertEqual(far(n, n - 1, n - 1, []), [0, 0])
            self.assertGreaterEqual(far(n, n - 1, 0, row(n))[0], 0)
            self.assertGreaterEqual(far(n, 0, n - 1, row(n))[0], 0)

    def test_there_are_no_steps(self):
        for i, j in ((0, 2), (2, 0), (1, 3), (0, 4), (4, 3)):
            self.assertEqual(far(5, i, j, [0, 1, 2, 3]), NO_STEPS)
        self.assertEqual(far(2, 0, 1, []), NO_STEPS)
        self.assertEqual(far(8, 0, 7, row(7)), NO_STEPS)

    def test_what_all_refuse_goes_first(self):
        for n in (0, 9, LARGEST):
            for i, j in ((0, 0), (0, 8), (8, 0), (LARGEST, LARGEST)):
                self.assertEqual(far(n, i, j, []), REFUSED)
                self.assertEqual(far(n, i, j, [0, 1]), REFUSED)
        for l in ([0], [0, 1, 2], [0, 3], [3, 0], [1, 1], [0, 1] * 29, [255] * 60, [255] * 59):
            for i, j in ((0, 1), (0, 2), (2, 2), (3, 0), (0, 3), (3, 3), (LARGEST, 0), (LARGEST, LARGEST)):
                self.assertEqual(far(3, i, j, l), REFUSED, (i, j, l))

    def test_no_such_guest_goes_ahead_of_no_steps(self):
        for l in ([], [0, 1], [1, 2]):
            for i, j in ((0, 3), (3, 0), (2, 3), (3, 2), (LARGEST, 2), (2, LARGEST)):
                self.assertEqual(far(3, i, j, l), NO_SUCH_GUEST, (i, j, l))

    def test_guests_below_0(self):
        self.assertEqual(far(3, -1, 0, row(3)), NO_SUCH_GUEST)
        self.assertEqual(far(3, 0, -1, row(3)), NO_SUCH_GUEST)


if __name__ == "__main__":
    unittest.main()
