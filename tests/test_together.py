"""Point 3 of the promises, over the whole program."""

import functools
import itertools
import unittest

from gatherings import many_gatherings, met_by_bits, one_by_one, pairs_of, who_can_be
from introduced.guests import after, far, one, rounds


def met_behind(n, k, l):
    """The pairs who know one another behind k rounds, by after."""
    return met_by_bits(after(n, k, l)[1:])


def met_one_by_one(n, l):
    """The pairs who know one another behind the last introduction, by one."""
    answer = one(n, l)
    return pairs_of(l).union(frozenset(answer[at:at + 2]) for at in range(1, len(answer), 2))


@functools.cache
def every_order(n, met):
    """How many introductions it takes and who knows whom then, over all orders there are."""
    ends = {
        (number + 1, then)
        for two in who_can_be(n, met) for number, then in every_order(n, met | {two})
    }
    return ends or {(0, met)}


class WhatHolds(unittest.TestCase):
    def test_behind_k_rounds_those_at_most_two_to_the_k_steps_apart_know_one_another(self):
        for n, l in many_gatherings():
            steps = {(i, j): far(n, i, j, l)[0] for i in range(n) for j in range(n)}
            for k in range(6):
                near = {frozenset(two) for two in steps if two[0] != two[1] and 0 <= steps[two] <= 1 << k}
                self.assertEqual(met_behind(n, k, l), near, (n, k, l))

    def test_behind_all_rounds_all_of_a_group_know_all_of_it(self):
        for n, l in many_gatherings():
            then = met_behind(n, rounds(n, l)[0], l)
            for i, j in itertools.combinations(range(n), 2):
                self.assertEqual(frozenset((i, j)) in then, far(n, i, j, l)[0] > 0, (n, i, j, l))

    def test_so_many_rounds_as_the_two_who_take_longest(self):
        for n, l in many_gatherings():
            told = [far(n, i, j, l) for i in range(n) for j in range(n)]
            self.assertEqual(rounds(n, l)[0], max(answer[1] for answer in told if answer[0] >= 0), (n, l))

    def test_as_many_groups_as_guests_with_no_steps_to_a_lesser_one(self):
        for n, l in many_gatherings():
            firsts = [i for i in range(n) if all(far(n, i, j, l)[0] < 0 for j in range(i))]
            self.assertEqual(rounds(n, l)[1], len(firsts), (n, l))

    def test_in_every_order_as_many_introductions_and_the_same_know_one_another(self):
        for n, l in many_gatherings():
            if n <= 5:
                then = met_one_by_one(n, l)
                self.assertEqual(every_order(n, pairs_of(l)), {(one(n, l)[0], then)}, (n, l))
                self.assertEqual(every_order(n, pairs_of(l)), {(rounds(n, l)[2], then)}, (n, l))

    def test_the_last_two_who_can_be_first_it_is_the_same_for_eight(self):
        for n, l in many_gatherings():
            if n == 8:
                backwards = one_by_one(n, pairs_of(l), -1)
                self.assertEqual(len(backwards), one(n, l)[0], l)
                self.assertEqual(pairs_of(l).union(backwards), met_one_by_one(n, l), l)

    def test_one_by_one_the_same_know_one_another_as_round_by_round(self):
        for n, l in many_gatherings():
            self.assertEqual(met_one_by_one(n, l), met_behind(n, rounds(n, l)[0], l), (n, l))


if __name__ == "__main__":
    unittest.main()
