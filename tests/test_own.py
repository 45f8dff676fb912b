"""Promise 1 as far as it speaks of ap_own. Answers are worked out by hand from the document."""

import unittest

from starlight.heaps import ap_own

BELOW = 2 ** 64


class OnePlace(unittest.TestCase):
    def check(self, r, a, b, xy, want):
        self.assertEqual(ap_own(r, a, b, 1, 1, [7], xy), [0, want])

    def test_empty_ring_takes_nothing_away(self):
        # A place's own middle isn't farther than 0 from itself.
        self.check(12, 0, 0, [32, 32], 28)
        self.check(26, 0, 4096, [32, 32], 84)
        self.check(34, 0, 4096, [32, 32], 112)

    def test_a_at_least_b(self):
        # The middle is just 5 away: 3 across and 4 down.
        self.check(34, 4, 5, [29, 28], 0)
        self.check(4096, 5, 5, [29, 28], 112)
        self.check(4096, 6, 4, [29, 28], 112)
        self.check(4096, 4096, 0, [29, 28], 112)

    def test_aperture_without_a_point(self):
        self.check(0, 0, 4096, [32, 32], 0)
        self.check(0, 0, 1, [33, 32], 0)
        self.check(11, 0, 1, [32, 33], 0)
        self.check(4096, 0, 4096, [65535, 65535], 0)

    def test_place_outside_of_the_frame(self):
        # Two points are within 41 of it; the middle is just 64 away.
        self.check(41, 63, 64, [96, 32], 0)
        self.check(41, 64, 65, [96, 32], 14)
        self.check(41, 0, 63, [32, 96], 14)
        self.check(41, 0, 64, [32, 96], 0)

    def test_largest_radii(self):
        # The middle is just 4096 away, the eight points of the lower half are nearer.
        for xy in ([32, 4128], [4128, 32]):
            self.check(4096, 4095, 4096, xy, 0)
            self.check(4096, 0, 4095, xy, 56)
            self.check(4096, 4096, 4096, xy, 56)
            self.check(0, 4095, 4096, xy, 0)

    def test_least_and_greatest_numbers(self):
        self.assertEqual(ap_own(34, 0, 4096, 1, 1, [0], [32, 32]), [0, 0])
        self.assertEqual(ap_own(34, 0, 4096, 1, 1, [65535], [32, 32]), [0, 1048560])
        self.assertEqual(ap_own(34, 0, 4096, 1, 1, [65535], [33, 33]), [0, 0])


class RowsAndColumns(unittest.TestCase):
    def check(self, r, a, b, f, along, want):
        self.assertEqual(ap_own(r, a, b, len(f), 1, f, [along, 32]), [0, want])
        self.assertEqual(ap_own(r, a, b, 1, len(f), f, [32, along]), [0, want])

    def test_above_nothing(self):
        # 16 points of 20, and the lower one of 10 and 30 for each.
        self.check(34, 0, 64, [10, 20, 30], 96, 160)
        self.check(34, 0, 64, [30, 20, 10], 96, 160)
        # Two points of each neighbour besides: 400 by 20 points.
        self.check(41, 0, 64, [10, 20, 30], 96, 200)

    def test_each_bound_is_used_in_its_place(self):
        # The other two are 64 and 128 away.
        self.check(34, 63, 64, [20, 5, 3], 32, 240)
        self.check(34, 64, 128, [20, 5, 3], 32, 272)
        self.check(34, 0, 128, [20, 5, 3], 32, 272)
        self.check(34, 0, 63, [20, 5, 3], 32, 320)
        self.check(34, 128, 4096, [20, 5, 3], 32, 320)

    def test_just_nothing(self):
        self.check(34, 0, 64, [7, 7, 7], 96, 0)
        self.check(41, 0, 64, [7, 7, 7], 96, 0)
        self.check(34, 0, 64, [20, 20, 30], 96, 0)

    def test_one_point_just_about_nothing(self):
        # Its place's number less that of the other place, whose middle is a square of 8320 away.
        self.assertEqual(ap_own(0, 63, 91, 2, 1, [6, 5], [8, 8]), [0, 6])
        self.assertEqual(ap_own(0, 63, 92, 2, 1, [6, 5], [8, 8]), [0, 1])
        self.assertEqual(ap_own(0, 63, 92, 2, 1, [5, 5], [8, 8]), [0, 0])
        self.assertEqual(ap_own(0, 63, 92, 2, 1, [4, 5], [8, 8]), [0, BELOW - 1])

    def test_below_nothing(self):
        self.check(34, 0, 64, [10, 2, 30], 96, BELOW - 128)
        self.check(34, 0, 64, [65535, 0, 65535], 96, BELOW - 1048560)
        # Two points of each neighbour, 60 each: 2 * 60 * 2 less 60 * 20.
        self.check(41, 0, 64, [60, 0, 60], 96, BELOW - 960)

    def test_place_outside_of_the_frame(self):
        # Two points of the last place; it's 64 away, the other one 128.
        self.check(41, 64, 128, [5, 7], 160, 4)
        self.check(41, 0, 64, [5, 7], 160, 0)
        self.check(41, 64, 128, [9, 7], 160, BELOW - 4)

    def test_place_that_is_no_middle(self):
        # The point at (8, 8) is 5 away, the middles squares of 1513 and 9065 (39 and 96 reach them, 38 and 95 don't).
        self.assertEqual(ap_own(5, 39, 96, 2, 1, [7, 4], [5, 4]), [0, 3])
        self.assertEqual(ap_own(5, 38, 95, 2, 1, [7, 4], [5, 4]), [0, 0])
        self.assertEqual(ap_own(5, 38, 96, 2, 1, [7, 4], [5, 4]), [0, 3])
        self.assertEqual(ap_own(5, 39, 95, 2, 1, [7, 4], [5, 4]), [0, 7])
        self.assertEqual(ap_own(4, 39, 96, 2, 1, [7, 4], [5, 4]), [0, 0])

    def test_longest_row_and_longest_column(self):
        self.check(34, 0, 64, [9] * 62 + [10, 65535], 4064, 16 * 65525)


class SeveralRows(unittest.TestCase):
    def test_eight_neighbours(self):
        f = [8, 1, 6, 3, 99, 7, 4, 5, 2]
        # 16 times 99, less 16 times the middle one of 1, 3, 5, 7, of 2, 4, 6, 8, and of all eight.
        self.assertEqual(ap_own(34, 0, 90, 3, 3, f, [96, 96]), [0, 1536])
        self.assertEqual(ap_own(34, 64, 91, 3, 3, f, [96, 96]), [0, 1520])
        self.assertEqual(ap_own(34, 0, 91, 3, 3, f, [96, 96]), [0, 1520])

    def test_rows_follow_one_another(self):
        # In a corner two are 64 away, one beside and one above or below: the lower of them is taken away.
        f = [10, 20, 30, 1, 2, 3]
        self.assertEqual(ap_own(34, 0, 64, 3, 2, f, [32, 32]), [0, 16 * 9])
        self.assertEqual(ap_own(34, 0, 64, 3, 2, f, [160, 32]), [0, 16 * 27])
        self.assertEqual(ap_own(34, 0, 64, 2, 3, f, [32, 160]), [0, BELOW - 16])
        self.assertEqual(ap_own(34, 0, 64, 2, 3, f, [96, 32]), [0, 16 * 19])

    def test_largest_frame(self):
        full = [65535] * 4096
        self.assertEqual(ap_own(4096, 0, 4096, 64, 64, full, [2048, 2048]), [0, 0])
        self.assertEqual(ap_own(4096, 4096, 0, 64, 64, full, [2048, 2048]), [0, 65535 * 65536])
        # 2047 places of 0 and 2049 of 65535: the middle one is 65535, for each of 65536 points.
        half = [0] * 2047 + [65535] * 2049
        self.assertEqual(ap_own(4096, 0, 4096, 64, 64, half, [2048, 2048]), [0, BELOW - 65535 * 2047 * 16])


class Places(unittest.TestCase):
    def test_no_place(self):
        self.assertEqual(ap_own(34, 0, 64, 1, 1, [7], []), [0])
        self.assertEqual(ap_own(4096, 4096, 4096, 64, 64, [65535] * 4096, []), [0])

    def test_places_in_their_order(self):
        xy = [96, 32, 32, 32, 65535, 65535, 160, 32]
        self.assertEqual(ap_own(34, 0, 64, 3, 1, [10, 20, 30], xy), [0, 160, BELOW - 160, 0, 160])

    def test_sixty_four_places(self):
        self.assertEqual(ap_own(34, 0, 64, 1, 1, [7], [32, 32] * 63 + [33, 32]), [0] + [112] * 63 + [0])


class Refusals(unittest.TestCase):
    def refused(self, r, a, b, w, h, f, xy):
        self.assertEqual(ap_own(r, a, b, w, h, f, xy), [-2])

    def test_radii(self):
        for far in (4097, 4294967295):
            for r, a, b in ((far, 0, 0), (0, far, 0), (0, 0, far), (far, far, far), (4096, 4096, far)):
                self.refused(r, a, b, 1, 1, [7], [33, 32])
                self.refused(r, a, b, 1, 1, [7], [])
                self.refused(r, a, b, 1, 1, [], [])
                self.refused(r, a, b, 64, 64, [], [])

    def test_sides(self):
        self.refused(0, 0, 1, 0, 1, [], [33, 32])
        self.refused(0, 0, 1, 1, 0, [], [33, 32])
        self.refused(0, 0, 1, 65, 1, [7] * 65, [33, 32])
        self.refused(0, 0, 1, 1, 65, [7] * 65, [33, 32])
        self.refused(0, 0, 1, 65, 64, [7] * 4160, [33, 32])
        self.refused(0, 0, 1, 64, 65, [7] * 4160, [])

    def test_sides_with_empty_lists(self):
        for side in (0, 65, 4294967295):
            self.refused(0, 0, 1, side, 1, [], [])
            self.refused(0, 0, 1, 1, side, [], [])
            self.refused(0, 0, 1, side, side, [], [])
            self.refused(4097, 4097, 4097, side, side, [], [])

    def test_too_many_places(self):
        self.refused(0, 0, 1, 1, 1, [7], [33, 32] * 65)
        self.refused(0, 0, 1, 1, 1, [7], [33, 32] * 70)
        self.refused(4097, 0, 0, 0, 65, [], [33, 32] * 65)


if __name__ == "__main__":
    unittest.main()
