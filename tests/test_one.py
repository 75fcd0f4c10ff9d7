"""Points 1 and 2 of the promises, as far as they speak of one; what it refuses is in test_refusals."""

import unittest

from gatherings import (
    REFUSED, everybody, many_gatherings, met_by_bits, one_by_one, pairs_of, ring, row, who_can_be,
)
from introduced.guests import after, one, rounds


def twos_of(answer):
    """The two of each introduction, as they stand in the answer."""
    return [tuple(answer[at:at + 2]) for at in range(1, len(answer), 2)]


def flat(number, twos):
    return [number] + [guest for two in twos for guest in two]


class OrdinaryInputs(unittest.TestCase):
    def test_one_introduction(self):
        self.assertEqual(one(3, [0, 1, 1, 2]), [1, 0, 2])
        self.assertEqual(one(3, [2, 0, 0, 1]), [1, 1, 2])
        self.assertEqual(one(3, [0, 2, 2, 1]), [1, 0, 1])
        self.assertEqual(one(8, [6, 7, 7, 2]), [1, 2, 6])

    def test_nobody_can_be_introduced(self):
        self.assertEqual(one(2, [0, 1]), [0])
        self.assertEqual(one(3, [0, 1, 1, 2, 2, 0]), [0])
        self.assertEqual(one(5, [0, 1, 4, 2]), [0])

    def test_all_who_know_one_guest(self):
        self.assertEqual(one(5, [4, 3, 4, 2, 4, 1, 4, 0]), [6, 0, 1, 0, 2, 0, 3, 1, 2, 1, 3, 2, 3])
        self.assertEqual(one(5, [2, 0, 2, 1, 2, 3, 2, 4]), [6, 0, 1, 0, 3, 0, 4, 1, 3, 1, 4, 3, 4])

    def test_the_lesser_ones_number_goes_ahead_of_the_others(self):
        # 0 and 3 can be introduced, and 1 and 2: the lesser one decides.
        self.assertEqual(one(4, [0, 1, 1, 3, 3, 2]), [3, 0, 3, 0, 2, 1, 2])

    def test_made_possible_ahead_of_those_that_could_be_before(self):
        # 2 and 3 can be introduced from the first on, 0 and 2 when 0 knows 1.
        self.assertEqual(one(4, [0, 3, 3, 1, 1, 2]), [3, 0, 1, 0, 2, 2, 3])
        # The same among others, none of whom can be introduced.
        self.assertEqual(one(7, [0, 5, 1, 4, 4, 2, 2, 3]), [3, 1, 2, 1, 3, 3, 4])

    def test_made_possible_ahead_of_the_introduction_itself(self):
        # 0 and 1 can be introduced when 0 knows 3, and stand ahead of 0 and 3.
        self.assertEqual(one(5, [0, 4, 4, 3, 3, 1]), [3, 0, 3, 0, 1, 1, 4])
        self.assertEqual(one(5, [1, 4, 4, 3, 3, 2]), [3, 1, 3, 1, 2, 2, 4])

    def test_the_order_of_the_pairs_does_not_matter(self):
        for l in ([0, 3, 3, 1, 1, 2], [1, 2, 3, 1, 0, 3], [2, 1, 3, 0, 1, 3], [3, 1, 2, 1, 3, 0]):
            self.assertEqual(one(4, l), [3, 0, 1, 0, 2, 2, 3])

    def test_many_gatherings(self):
        for n, l in many_gatherings():
            twos = [sorted(two) for two in one_by_one(n, pairs_of(l))]
            self.assertEqual(one(n, l), flat(len(twos), twos), (n, l))


class EachIntroduction(unittest.TestCase):
    def test_as_many_twos_as_told(self):
        for n, l in many_gatherings():
            answer = one(n, l)
            self.assertEqual(len(answer), 1 + 2 * answer[0], (n, l))

    def test_of_each_two_the_lesser_first(self):
        for n, l in many_gatherings():
            for lesser, other in twos_of(one(n, l)):
                self.assertLess(lesser, other, (n, l))

    def test_it_was_possible_then_and_none_is_left_behind_the_last(self):
        for n, l in many_gatherings():
            met = pairs_of(l)
            for two in twos_of(one(n, l)):
                self.assertIn(frozenset(two), who_can_be(n, met), (n, l))
                met = met | {frozenset(two)}
            self.assertEqual(who_can_be(n, met), [], (n, l))

    def test_it_is_the_first_two_who_can_be_then(self):
        for n, l in many_gatherings():
            met = pairs_of(l)
            for two in twos_of(one(n, l)):
                self.assertEqual(two, min(tuple(sorted(each)) for each in who_can_be(n, met)), (n, l))
                met = met | {frozenset(two)}

    def test_as_many_as_rounds_tells(self):
        for n, l in many_gatherings():
            self.assertEqual(one(n, l)[0], rounds(n, l)[2], (n, l))

    def test_the_same_know_one_another_as_behind_all_rounds(self):
        for n, l in many_gatherings():
            then = pairs_of(l).union(frozenset(two) for two in twos_of(one(n, l)))
            self.assertEqual(then, met_by_bits(after(n, rounds(n, l)[0], l)[1:]), (n, l))


class Corners(unittest.TestCase):
    def test_one_guest(self):
        self.assertEqual(one(1, []), [0])

    def test_nobody_knows_anybody(self):
        for n in range(1, 9):
            self.assertEqual(one(n, []), [0])

    def test_all_in_a_row(self):
        self.assertEqual(one(4, row(4)), [3, 0, 2, 0, 3, 1, 3])
        for n in range(1, 9):
            twos = [(lesser, other) for lesser in range(n) for other in range(lesser + 2, n)]
            self.assertEqual(one(n, row(n)), flat(len(twos), twos))
            self.assertEqual(one(n, row(n)[::-1]), flat(len(twos), twos))
        self.assertEqual(one(8, row(8))[0], 21)

    def test_two_groups(self):
        self.assertEqual(one(6, [0, 1, 1, 2, 3, 4, 4, 5]), [2, 0, 2, 3, 5])
        self.assertEqual(one(6, [3, 4, 4, 5, 0, 1, 1, 2]), [2, 0, 2, 3, 5])
        two_rows = [0, 2, 2, 4, 4, 6, 1, 3, 3, 5, 5, 7]
        self.assertEqual(one(8, two_rows), [6, 0, 4, 0, 6, 1, 5, 1, 7, 2, 6, 3, 7])
        self.assertEqual(one(4, [0, 3, 2, 1]), [0])

    def test_everybody_knows_everybody(self):
        for n in range(1, 9):
            self.assertEqual(one(n, everybody(n)), [0])

    def test_eight_in_a_ring(self):
        twos = [(lesser, other) for lesser in range(8) for other in range(lesser + 2, 8)]
        twos.remove((0, 7))
        self.assertEqual(one(8, ring(8)), flat(20, twos))


class PairsToldAgain(unittest.TestCase):
    def test_they_count_once(self):
        self.assertEqual(one(3, [0, 1, 0, 1, 0, 1]), [0])
        self.assertEqual(one(3, [0, 1, 1, 2, 0, 1, 1, 2]), [1, 0, 2])

    def test_either_way_round(self):
        self.assertEqual(one(3, [1, 0]), [0])
        self.assertEqual(one(4, [1, 0, 2, 1, 1, 2, 0, 1, 3, 2]), [3, 0, 2, 0, 3, 1, 3])

    def test_28_told_are_allowed(self):
        self.assertEqual(one(8, everybody(8)), [0])
        self.assertEqual(one(2, [0, 1, 1, 0] * 14), [0])
        self.assertEqual(one(8, row(8) * 2 + row(8)[::-1] * 2), one(8, row(8)))

    def test_29_and_30_told_are_refused(self):
        for l in (row(8) * 4 + [0, 1], row(8) * 4 + [0, 1, 1, 0], [0, 1] * 29, [1, 0] * 30):
            self.assertEqual(one(8, l), REFUSED)


if __name__ == "__main__":
    unittest.main()
