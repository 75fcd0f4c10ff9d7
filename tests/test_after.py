"""Point 1 of the promises, as far as it speaks of all calls and of after."""

import itertools
import unittest

from gatherings import (
    LARGEST, REFUSED, bits_of, everybody, many_gatherings, met_in_a_round, pairs_of, ring, row,
    some_lists_of_eight, steps_from,
)
from introduced.guests import after

ROUNDS = range(6)


def answer_of(n, met):
    return [len(met)] + bits_of(n, met)


class OrdinaryInputs(unittest.TestCase):
    def test_pairs_as_told_without_a_round(self):
        self.assertEqual(after(5, 0, [0, 1, 4, 2]), [2, 2, 1, 16, 0, 4])

    def test_one_round_introduces_those_with_somebody_in_common(self):
        self.assertEqual(after(3, 1, [0, 1, 1, 2]), [3, 6, 5, 3])
        self.assertEqual(after(5, 1, [0, 1, 0, 2, 0, 3, 0, 4]), [10, 30, 29, 27, 23, 15])

    def test_all_of_a_round_are_introduced_at_once(self):
        # 0 and 3 have nobody in common till the first round is over.
        self.assertEqual(after(4, 1, [0, 1, 1, 2, 2, 3]), [5, 6, 13, 11, 6])
        self.assertEqual(after(4, 2, [0, 1, 1, 2, 2, 3]), [6, 14, 13, 11, 7])
        # The same row, with its guests numbered from the middle outwards and backwards.
        self.assertEqual(after(4, 1, [2, 0, 0, 1, 1, 3]), [5, 14, 13, 3, 3])
        self.assertEqual(after(4, 1, [3, 2, 2, 1, 1, 0]), [5, 6, 13, 11, 6])

    def test_each_number_of_rounds(self):
        path_and_pair = [0, 1, 1, 2, 2, 3, 3, 4, 6, 7]
        self.assertEqual(after(8, 0, path_and_pair), [5, 2, 5, 10, 20, 8, 0, 128, 64])
        self.assertEqual(after(8, 1, path_and_pair), [8, 6, 13, 27, 22, 12, 0, 128, 64])
        for k in (2, 3, 4, 5):
            self.assertEqual(after(8, k, path_and_pair), [11, 30, 29, 27, 23, 15, 0, 128, 64])

    def test_many_gatherings(self):
        for n, l in many_gatherings():
            met = pairs_of(l)
            for k in ROUNDS:
                self.assertEqual(after(n, k, l), answer_of(n, met), (n, k, l))
                met = met_in_a_round(n, met)

    def test_those_at_most_two_to_the_k_steps_apart_know_one_another(self):
        for l in some_lists_of_eight():
            steps = [steps_from(8, pairs_of(l), guest) for guest in range(8)]
            for k in ROUNDS:
                near = {
                    frozenset(two) for two in itertools.combinations(range(8), 2)
                    if steps[two[0]].get(two[1], 99) <= 1 << k
                }
                self.assertEqual(after(8, k, l), answer_of(8, near), (k, l))


class Corners(unittest.TestCase):
    def test_one_guest(self):
        for k in ROUNDS:
            self.assertEqual(after(1, k, []), [0, 0])

    def test_nobody_knows_anybody(self):
        for n in range(1, 9):
            for k in ROUNDS:
                self.assertEqual(after(n, k, []), [0] + [0] * n)

    def test_eight_in_a_row(self):
        self.assertEqual(after(8, 0, row(8)), [7, 2, 5, 10, 20, 40, 80, 160, 64])
        self.assertEqual(after(8, 1, row(8)), [13, 6, 13, 27, 54, 108, 216, 176, 96])
        self.assertEqual(after(8, 2, row(8)), [22, 30, 61, 123, 247, 239, 222, 188, 120])
        for k in (3, 4, 5):
            self.assertEqual(after(8, k, row(8)), [28, 254, 253, 251, 247, 239, 223, 191, 127])

    def test_two_groups(self):
        two_rows = [0, 1, 1, 2, 3, 4, 4, 5]
        self.assertEqual(after(6, 0, two_rows), [4, 2, 5, 2, 16, 40, 16])
        for k in (1, 2, 3, 4, 5):
            self.assertEqual(after(6, k, two_rows), [6, 6, 5, 3, 48, 40, 24])

    def test_everybody_knows_everybody(self):
        for k in ROUNDS:
            self.assertEqual(after(2, k, [0, 1]), [1, 2, 1])
            self.assertEqual(after(8, k, everybody(8)), [28, 254, 253, 251, 247, 239, 223, 191, 127])

    def test_eight_in_a_ring(self):
        self.assertEqual(after(8, 0, ring(8)), [8, 130, 5, 10, 20, 40, 80, 160, 65])
        self.assertEqual(after(8, 1, ring(8)), [16, 198, 141, 27, 54, 108, 216, 177, 99])
        for k in (2, 3, 4, 5):
            self.assertEqual(after(8, k, ring(8)), [28, 254, 253, 251, 247, 239, 223, 191, 127])


class PairsToldAgain(unittest.TestCase):
    def test_they_count_once(self):
        self.assertEqual(after(3, 0, [0, 1, 0, 1, 0, 1]), [1, 2, 1, 0])
        self.assertEqual(after(3, 1, [0, 1, 0, 1, 0, 1]), [1, 2, 1, 0])

    def test_either_way_round(self):
        self.assertEqual(after(3, 0, [1, 0]), [1, 2, 1, 0])
        self.assertEqual(after(3, 0, [0, 1, 1, 0]), [1, 2, 1, 0])
        self.assertEqual(after(3, 1, [1, 0, 2, 1, 1, 2, 0, 1]), [3, 6, 5, 3])

    def test_28_told_are_allowed(self):
        self.assertEqual(len(everybody(8)), 56)
        self.assertEqual(after(8, 0, everybody(8))[0], 28)
        self.assertEqual(after(2, 5, [0, 1, 1, 0] * 14), [1, 2, 1])
        self.assertEqual(after(8, 1, row(8) * 4), [13, 6, 13, 27, 54, 108, 216, 176, 96])


class Refusals(unittest.TestCase):
    def test_the_last_guest_is_there(self):
        for n in range(2, 9):
            self.assertEqual(after(n, 0, [0, n - 1])[0], 1)
            self.assertEqual(after(n, 0, [n - 1, 0])[0], 1)

    def test_the_same_guest_in_two_pairs_is_allowed(self):
        self.assertEqual(after(3, 0, [0, 1, 1, 2]), [2, 2, 5, 2])

    def test_more_than_5_rounds(self):
        for k in (6, 7, 255, LARGEST):
            self.assertEqual(after(1, k, []), REFUSED)
            self.assertEqual(after(3, k, [0, 1, 1, 2]), REFUSED)

    def test_several_at_once(self):
        self.assertEqual(after(0, 6, [0]), REFUSED)
        self.assertEqual(after(9, LARGEST, [8, 8]), REFUSED)
        self.assertEqual(after(LARGEST, LARGEST, [255] * 60), REFUSED)
        self.assertEqual(after(8, 6, [255] * 59), REFUSED)

    def test_a_number_of_rounds_below_0(self):
        self.assertEqual(after(3, -1, []), REFUSED)


if __name__ == "__main__":
    unittest.main()
