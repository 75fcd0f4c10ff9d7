"""Points 1 and 3 of the promises, as far as they speak of rounds; what it refuses is in test_refusals."""

import itertools
import unittest

from gatherings import (
    everybody, groups_of, many_gatherings, met_by_bits, met_in_a_round, one_by_one, pairs_of, ring, row,
    steps_from, who_can_be,
)
from introduced.guests import after, rounds


def rounds_till_nobody_can_be(n, met):
    for number in itertools.count():
        if not who_can_be(n, met):
            return number
        met = met_in_a_round(n, met)


class OrdinaryInputs(unittest.TestCase):
    def test_no_round(self):
        self.assertEqual(rounds(2, [0, 1]), [0, 1, 0])
        self.assertEqual(rounds(3, [0, 1, 1, 2, 2, 0]), [0, 1, 0])
        self.assertEqual(rounds(5, [0, 1, 4, 2]), [0, 3, 0])

    def test_one_round(self):
        self.assertEqual(rounds(3, [0, 1, 1, 2]), [1, 1, 1])
        self.assertEqual(rounds(5, [0, 1, 0, 2, 0, 3, 0, 4]), [1, 1, 6])
        self.assertEqual(rounds(4, [0, 1, 1, 2, 2, 3, 3, 0]), [1, 1, 2])
        self.assertEqual(rounds(5, [4, 1, 1, 3, 0, 2]), [1, 2, 1])

    def test_two_rounds(self):
        self.assertEqual(rounds(4, [0, 1, 1, 2, 2, 3]), [2, 1, 3])
        self.assertEqual(rounds(4, [2, 0, 0, 1, 1, 3]), [2, 1, 3])
        self.assertEqual(rounds(8, [0, 1, 1, 2, 2, 3, 3, 4, 6, 7]), [2, 3, 6])

    def test_three_rounds(self):
        self.assertEqual(rounds(6, row(6)), [3, 1, 10])
        self.assertEqual(rounds(7, [6, 5, 3, 5, 3, 0, 0, 4, 2, 4, 2, 1]), [3, 1, 15])
        self.assertEqual(rounds(8, row(6) + [6, 7]), [3, 2, 10])
        self.assertEqual(rounds(8, row(6)), [3, 3, 10])

    def test_the_group_that_takes_longest_decides_and_all_introductions_count(self):
        self.assertEqual(rounds(8, [0, 1, 1, 2, 2, 3, 4, 5, 5, 6]), [2, 3, 4])
        self.assertEqual(rounds(8, [0, 1, 1, 2, 3, 4, 4, 5, 5, 6]), [2, 3, 4])

    def test_guests_who_know_nobody_are_a_group_each(self):
        self.assertEqual(rounds(2, []), [0, 2, 0])
        self.assertEqual(rounds(4, [1, 2]), [0, 3, 0])
        self.assertEqual(rounds(8, [1, 4, 4, 6]), [1, 6, 1])

    def test_many_gatherings(self):
        for n, l in many_gatherings():
            met = pairs_of(l)
            told = [rounds_till_nobody_can_be(n, met), len(groups_of(n, met)), len(one_by_one(n, met))]
            self.assertEqual(rounds(n, l), told, (n, l))


class WhatHolds(unittest.TestCase):
    def test_behind_so_many_rounds_nobody_can_be_introduced_and_no_fewer(self):
        for n, l in many_gatherings():
            number = rounds(n, l)[0]
            self.assertEqual(who_can_be(n, met_by_bits(after(n, number, l)[1:])), [], (n, l))
            if number > 0:
                self.assertNotEqual(who_can_be(n, met_by_bits(after(n, number - 1, l)[1:])), [], (n, l))

    def test_then_all_of_a_group_know_all_of_it(self):
        for n, l in many_gatherings():
            then = met_by_bits(after(n, rounds(n, l)[0], l)[1:])
            groups = groups_of(n, pairs_of(l))
            within = {frozenset(two) for group in groups for two in itertools.combinations(group, 2)}
            self.assertEqual(then, within, (n, l))

    def test_as_many_rounds_as_the_longest_way_asks(self):
        for n, l in many_gatherings():
            longest = max(max(steps_from(n, pairs_of(l), guest).values()) for guest in range(n))
            number = rounds(n, l)[0]
            self.assertLessEqual(longest, 1 << number, (n, l))
            if number > 0:
                self.assertGreater(longest, 1 << (number - 1), (n, l))


class Corners(unittest.TestCase):
    def test_one_guest(self):
        self.assertEqual(rounds(1, []), [0, 1, 0])

    def test_nobody_knows_anybody(self):
        for n in range(1, 9):
            self.assertEqual(rounds(n, []), [0, n, 0])

    def test_all_in_a_row(self):
        answers = ([0, 1, 0], [1, 1, 1], [2, 1, 3], [2, 1, 6], [3, 1, 10], [3, 1, 15], [3, 1, 21])
        for n, answer in zip(range(2, 9), answers, strict=True):
            self.assertEqual(rounds(n, row(n)), answer)
            self.assertEqual(rounds(n, row(n)[::-1]), answer)

    def test_two_groups(self):
        self.assertEqual(rounds(6, [0, 1, 1, 2, 3, 4, 4, 5]), [1, 2, 2])
        self.assertEqual(rounds(8, [0, 2, 2, 4, 4, 6, 1, 3, 3, 5, 5, 7]), [2, 2, 6])
        self.assertEqual(rounds(4, [0, 3, 2, 1]), [0, 2, 0])

    def test_everybody_knows_everybody(self):
        for n in range(1, 9):
            self.assertEqual(rounds(n, everybody(n)), [0, 1, 0])

    def test_eight_in_a_ring(self):
        self.assertEqual(rounds(8, ring(8)), [2, 1, 20])


class PairsToldAgain(unittest.TestCase):
    def test_they_count_once(self):
        self.assertEqual(rounds(3, [0, 1, 0, 1, 0, 1]), [0, 2, 0])
        self.assertEqual(rounds(3, [0, 1, 1, 2, 0, 1, 1, 2]), [1, 1, 1])

    def test_either_way_round(self):
        self.assertEqual(rounds(3, [1, 0]), [0, 2, 0])
        self.assertEqual(rounds(3, [0, 1, 1, 0]), [0, 2, 0])
        self.assertEqual(rounds(4, [1, 0, 2, 1, 1, 2, 0, 1, 3, 2]), [2, 1, 3])

    def test_28_told_are_allowed(self):
        self.assertEqual(rounds(8, everybody(8)), [0, 1, 0])
        self.assertEqual(rounds(2, [0, 1, 1, 0] * 14), [0, 1, 0])
        self.assertEqual(rounds(8, row(8) * 2 + row(8)[::-1] * 2), [3, 1, 21])


if __name__ == "__main__":
    unittest.main()
