"""Point 1 of the promises, as far as all calls refuse the same: the guests and the pairs."""

import unittest

from gatherings import LARGEST, REFUSED, everybody, row
from introduced.guests import after, far, one, rounds

CALLS = {
    "after, 0 rounds": lambda n, l: after(n, 0, l),
    "after, 5 rounds": lambda n, l: after(n, 5, l),
    "rounds": rounds,
    "far": lambda n, l: far(n, 0, 0, l),
    "one": one,
}


class Refusals(unittest.TestCase):
    def refused(self, n, l):
        for name, call in CALLS.items():
            self.assertEqual(call(n, list(l)), REFUSED, (name, n, l))

    def allowed(self, n, l):
        for name, call in CALLS.items():
            self.assertGreaterEqual(call(n, list(l))[0], 0, (name, n, l))

    def test_guests_other_than_1_to_8(self):
        for n in (0, 9, 10, 255, 256, LARGEST):
            self.refused(n, [])
            self.refused(n, [0, 1])
        for n in range(1, 9):
            self.allowed(n, [])

    def test_an_odd_list(self):
        self.refused(8, [0])
        self.refused(8, [0, 1, 2])
        self.refused(1, [0])
        self.refused(8, everybody(8)[:-1])
        self.refused(8, everybody(8) + [0])
        self.refused(8, everybody(8) + [0, 1, 2])

    def test_more_than_28_pairs(self):
        self.assertEqual(len(everybody(8)), 2 * 28)
        for told, n in ((everybody(8), 8), (row(8) * 4, 8), ([0, 1, 1, 0] * 14, 2)):
            self.allowed(n, told)
            self.refused(n, told + [0, 1])
            self.refused(n, told + [0, 1, 1, 0])

    def test_a_guest_that_is_not_there(self):
        for n in range(1, 9):
            for missing in (n, n + 1, 255):
                self.refused(n, [0, missing])
                self.refused(n, [missing, 0])
                self.refused(n, row(n) + [0, missing])
                self.refused(n, [missing, 0] + row(n))
        self.refused(8, [8, 9])

    def test_the_last_guest_is_there(self):
        for n in range(2, 9):
            self.allowed(n, [0, n - 1])
            self.allowed(n, [n - 1, 0])

    def test_a_pair_of_one_guest_with_himself(self):
        self.refused(1, [0, 0])
        for guest in range(8):
            self.refused(8, [guest, guest])
            self.refused(8, row(8) + [guest, guest])
            self.refused(8, [guest, guest] + row(8))

    def test_several_at_once(self):
        self.refused(0, [0])
        self.refused(9, [8, 8])
        self.refused(3, [3, 3, 0])
        self.refused(8, [255] * 59)
        self.refused(LARGEST, [255] * 60)
        self.refused(LARGEST, [255] * 59)

    def test_numbers_below_0(self):
        self.refused(-1, [])
        self.refused(3, [0, -1])
        self.refused(3, [-1, 0])


if __name__ == "__main__":
    unittest.main()
