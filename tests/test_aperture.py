"""Promise 1 as far as it speaks of ap_aperture. Answers are worked out by hand from the document."""

import unittest

from starlight.heaps import ap_aperture

# About the middle of a place its sixteen points lie at 8 or 24 across and down: four at a
# squared distance of 128, eight at 640, four at 1152.


class OnePlace(unittest.TestCase):
    def check(self, r, xy, want):
        self.assertEqual(ap_aperture(r, 1, 1, [7], xy), want)

    def test_four_eight_four_points_about_the_middle(self):
        self.check(11, [32, 32], [0, 0, 0])
        self.check(12, [32, 32], [0, 28, 4])
        self.check(25, [32, 32], [0, 28, 4])
        self.check(26, [32, 32], [0, 84, 12])
        self.check(33, [32, 32], [0, 84, 12])
        self.check(34, [32, 32], [0, 112, 16])

    def test_points_just_r_away_are_within(self):
        self.check(0, [8, 8], [0, 7, 1])
        self.check(15, [8, 8], [0, 7, 1])
        self.check(16, [8, 8], [0, 21, 3])
        self.check(31, [8, 8], [0, 28, 4])
        self.check(32, [8, 8], [0, 42, 6])

    def test_each_of_the_sixteen_points_is_where_the_document_says(self):
        hits = [[x, y] for y in range(64) for x in range(64) if ap_aperture(0, 1, 1, [7], [x, y]) == [0, 7, 1]]
        self.assertEqual(hits, [[x, y] for y in (8, 24, 40, 56) for x in (8, 24, 40, 56)])

    def test_radius_of_nothing_off_the_points(self):
        self.check(0, [32, 32], [0, 0, 0])
        self.check(0, [9, 8], [0, 0, 0])
        self.check(0, [8, 9], [0, 0, 0])

    def test_place_that_is_no_middle(self):
        # 3 across and 4 down from the point at (8, 8).
        self.check(4, [5, 4], [0, 0, 0])
        self.check(5, [5, 4], [0, 7, 1])
        self.check(4, [11, 12], [0, 0, 0])
        self.check(5, [11, 12], [0, 7, 1])

    def test_corner_of_the_frame(self):
        # From (0, 0) the points are at 8 times 1, 3, 5, 7: squares of 128, then 640 twice.
        self.check(11, [0, 0], [0, 0, 0])
        self.check(12, [0, 0], [0, 7, 1])
        self.check(26, [0, 0], [0, 21, 3])

    def test_place_outside_of_the_frame(self):
        # 64 beside the middle: the two nearest points are 40 across and 8 up or down, a square of 1664.
        self.check(40, [96, 32], [0, 0, 0])
        self.check(41, [96, 32], [0, 14, 2])
        self.check(40, [32, 96], [0, 0, 0])
        self.check(41, [32, 96], [0, 14, 2])
        self.check(4096, [65535, 65535], [0, 0, 0])
        self.check(4096, [65535, 0], [0, 0, 0])
        self.check(4096, [0, 65535], [0, 0, 0])

    def test_largest_radius_reaches_just_so_far(self):
        # (8, 8) is just 4096 away; its neighbours of the same row are farther; 12 are nearer.
        self.check(4095, [8, 4104], [0, 84, 12])
        self.check(4096, [8, 4104], [0, 91, 13])
        self.check(4095, [4104, 8], [0, 84, 12])
        self.check(4096, [4104, 8], [0, 91, 13])

    def test_least_and_greatest_numbers(self):
        self.assertEqual(ap_aperture(34, 1, 1, [0], [32, 32]), [0, 0, 16])
        self.assertEqual(ap_aperture(34, 1, 1, [65535], [32, 32]), [0, 1048560, 16])


class SeveralPlaces(unittest.TestCase):
    def test_one_row(self):
        f = [10, 20, 30]
        self.assertEqual(ap_aperture(34, 3, 1, f, [96, 32]), [0, 320, 16])
        # The neighbours' nearest points are at 40 across and 8 down: a square of 1664.
        self.assertEqual(ap_aperture(40, 3, 1, f, [96, 32]), [0, 320, 16])
        self.assertEqual(ap_aperture(41, 3, 1, f, [96, 32]), [0, 400, 20])

    def test_one_column(self):
        f = [10, 20, 40]
        self.assertEqual(ap_aperture(40, 1, 3, f, [32, 96]), [0, 320, 16])
        self.assertEqual(ap_aperture(41, 1, 3, f, [32, 96]), [0, 420, 20])

    def test_rows_follow_one_another(self):
        f = [1, 2, 3, 4, 5, 6]
        middles = [32, 32, 96, 32, 160, 32, 32, 96, 96, 96, 160, 96]
        want = [0, 16, 16, 32, 16, 48, 16, 64, 16, 80, 16, 96, 16]
        self.assertEqual(ap_aperture(34, 3, 2, f, middles), want)
        middles = [32, 32, 96, 32, 32, 96, 96, 96, 32, 160, 96, 160]
        self.assertEqual(ap_aperture(34, 2, 3, f, middles), want)

    def test_where_four_places_meet(self):
        self.assertEqual(ap_aperture(11, 2, 2, [1, 2, 3, 4], [64, 64]), [0, 0, 0])
        self.assertEqual(ap_aperture(12, 2, 2, [1, 2, 3, 4], [64, 64]), [0, 10, 4])
        # Each place has three points within: squares of 128, 640, 640.
        self.assertEqual(ap_aperture(26, 2, 2, [1, 2, 3, 4], [64, 64]), [0, 30, 12])

    def test_three_four_five_across_two_rows(self):
        # From (8, 8) the point at (56, 72), in the lower place, is just 80 away.
        near = ap_aperture(79, 1, 2, [0, 1], [8, 8])
        just = ap_aperture(80, 1, 2, [0, 1], [8, 8])
        # Lower points are 64, 80, .. below; at 64: 0, 16, 32 across within 79, and 48 within 80;
        # at 80: 0 across within 80.
        self.assertEqual(near, [0, 3, 19])
        self.assertEqual(just, [0, 5, 21])

    def test_every_point_of_the_largest_frame(self):
        f = [65535] * 4096
        self.assertEqual(ap_aperture(4096, 64, 64, f, [2048, 2048]), [0, 65535 * 65536, 65536])

    def test_longest_row_and_longest_column(self):
        f = [0] * 63 + [65535]
        self.assertEqual(ap_aperture(34, 64, 1, f, [4064, 32]), [0, 1048560, 16])
        self.assertEqual(ap_aperture(34, 1, 64, f, [32, 4064]), [0, 1048560, 16])
        self.assertEqual(ap_aperture(34, 64, 1, f, [32, 4064]), [0, 0, 0])


class Places(unittest.TestCase):
    def test_no_place(self):
        self.assertEqual(ap_aperture(10, 1, 1, [7], []), [0])
        self.assertEqual(ap_aperture(4096, 64, 64, [65535] * 4096, []), [0])

    def test_places_in_their_order(self):
        xy = [32, 32, 8, 8, 65535, 65535, 32, 32]
        self.assertEqual(ap_aperture(12, 1, 1, [7], xy), [0, 28, 4, 7, 1, 0, 0, 28, 4])

    def test_sixty_four_places(self):
        self.assertEqual(ap_aperture(12, 1, 1, [7], [32, 32] * 63 + [8, 8]), [0] + [28, 4] * 63 + [7, 1])


class Refusals(unittest.TestCase):
    def refused(self, r, w, h, f, xy):
        self.assertEqual(ap_aperture(r, w, h, f, xy), [-2])

    def test_radius(self):
        for r in (4097, 4294967295):
            self.refused(r, 1, 1, [7], [32, 32])
            self.refused(r, 1, 1, [7], [])
            self.refused(r, 1, 1, [], [])
            self.refused(r, 64, 64, [], [])

    def test_sides(self):
        self.refused(0, 0, 1, [], [32, 32])
        self.refused(0, 1, 0, [], [32, 32])
        self.refused(0, 65, 1, [7] * 65, [32, 32])
        self.refused(0, 1, 65, [7] * 65, [32, 32])
        self.refused(0, 65, 64, [7] * 4160, [32, 32])
        self.refused(0, 64, 65, [7] * 4160, [])

    def test_sides_with_empty_lists(self):
        for side in (0, 65, 4294967295):
            self.refused(0, side, 1, [], [])
            self.refused(0, 1, side, [], [])
            self.refused(0, side, side, [], [])
            self.refused(4097, side, side, [], [])

    def test_too_many_places(self):
        self.refused(0, 1, 1, [7], [32, 32] * 65)
        self.refused(0, 1, 1, [7], [32, 32] * 70)
        self.refused(4097, 0, 65, [], [32, 32] * 65)


if __name__ == "__main__":
    unittest.main()
