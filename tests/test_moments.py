"""Promise 2 as far as it speaks of ap_moments. Answers are worked out by hand from the document."""

import unittest

from starlight.heaps import ap_moments

BELOW = 2 ** 32
NONE = [4294967295, 4294967295, 4294967295]


class OnePlace(unittest.TestCase):
    def check(self, level, r, xy, want):
        self.assertEqual(ap_moments(level, r, 1, 1, [7], xy), [0] + want)

    def test_about_its_own_middle(self):
        self.check(0, 4096, [32, 32], [0, 0, 0])
        self.check(0, 0, [32, 32], [0, 0, 0])

    def test_third_width_above_nothing_and_below(self):
        # 3 across and 4 down.
        self.check(0, 4096, [29, 28], [9, 16, 12])
        self.check(0, 4096, [35, 36], [9, 16, 12])
        self.check(0, 4096, [35, 28], [9, 16, BELOW - 12])
        self.check(0, 4096, [29, 36], [9, 16, BELOW - 12])

    def test_across_comes_first(self):
        self.check(0, 4096, [29, 32], [9, 0, 0])
        self.check(0, 4096, [35, 32], [9, 0, 0])
        self.check(0, 4096, [32, 28], [0, 16, 0])
        self.check(0, 4096, [32, 36], [0, 16, 0])

    def test_third_width_of_just_one_below_nothing(self):
        self.check(0, 4096, [33, 31], [1, 1, BELOW - 1])
        self.check(0, 4096, [31, 33], [1, 1, BELOW - 1])

    def test_just_r_from_the_middle_and_farther(self):
        self.check(0, 5, [29, 28], [9, 16, 12])
        self.check(0, 4, [29, 28], NONE)
        self.check(0, 5, [28, 28], NONE)
        self.check(0, 5, [29, 27], NONE)

    def test_radius_of_nothing(self):
        for xy in ([33, 32], [31, 32], [32, 33], [32, 31]):
            self.check(0, 0, xy, NONE)
            self.check(0, 1, xy, [(xy[0] - 32) ** 2, (xy[1] - 32) ** 2, 0])

    def test_largest_radius(self):
        self.check(0, 4096, [32, 4128], [0, 16777216, 0])
        self.check(0, 4096, [4128, 32], [16777216, 0, 0])
        self.check(0, 4095, [32, 4128], NONE)
        self.check(0, 4095, [4128, 32], NONE)
        self.check(0, 4096, [33, 4128], NONE)
        # 2896 across and down: a square of 16773632, less than that of 4096.
        self.check(0, 4096, [2928, 2928], [8386816, 8386816, 8386816])
        self.check(0, 4096, [2929, 2929], NONE)
        self.check(0, 4096, [65535, 65535], NONE)

    def test_just_the_level_and_just_above_it(self):
        self.check(6, 4096, [29, 28], [9, 16, 12])
        self.check(7, 4096, [29, 28], NONE)
        self.check(8, 4096, [29, 28], NONE)
        self.check(65535, 4096, [29, 28], NONE)

    def test_least_and_greatest_levels_and_numbers(self):
        self.assertEqual(ap_moments(0, 4096, 1, 1, [0], [29, 28]), [0] + NONE)
        self.assertEqual(ap_moments(0, 4096, 1, 1, [1], [29, 28]), [0, 9, 16, 12])
        self.assertEqual(ap_moments(0, 4096, 1, 1, [65535], [29, 28]), [0, 9, 16, 12])
        self.assertEqual(ap_moments(65534, 4096, 1, 1, [65535], [29, 28]), [0, 9, 16, 12])
        self.assertEqual(ap_moments(65535, 4096, 1, 1, [65535], [29, 28]), [0] + NONE)


class RowsAndColumns(unittest.TestCase):
    def check(self, level, r, f, along, beside, want):
        """About a place told along the row and beside it; the column has the first two widths the other way round."""
        self.assertEqual(ap_moments(level, r, len(f), 1, f, [along, beside]), [0] + want)
        turned = [want[1], want[0], want[2]]
        self.assertEqual(ap_moments(level, r, 1, len(f), f, [beside, along]), [0] + turned)

    def test_by_their_weights(self):
        # 32 to each side; then 48 and 16: 2304 + 3 * 256 by 4.
        self.check(0, 4096, [1, 3], 64, 32, [1024, 0, 0])
        self.check(0, 4096, [1, 3], 80, 32, [768, 0, 0])
        # 2 down as well: -64 + 3 * 64 by 4, and -96 + 3 * 32.
        self.check(0, 4096, [1, 3], 64, 30, [1024, 4, 32])
        self.check(0, 4096, [1, 3], 64, 34, [1024, 4, BELOW - 32])
        self.check(0, 4096, [1, 3], 80, 30, [768, 4, 0])

    def test_just_r_from_the_place_and_farther(self):
        self.check(0, 48, [1, 3], 80, 32, [768, 0, 0])
        self.check(0, 47, [1, 3], 80, 32, [256, 0, 0])
        self.check(0, 16, [1, 3], 80, 32, [256, 0, 0])
        self.check(0, 15, [1, 3], 80, 32, NONE)

    def test_what_is_above_the_level_counts(self):
        # About the middle place: weights of 1, 3, 2; of 0, 2, 1; of 0, 1, 0; of none.
        self.check(9, 64, [10, 12, 11], 96, 32, [2048, 0, 0])
        self.check(10, 64, [10, 12, 11], 96, 32, [1365, 0, 0])
        self.check(11, 64, [10, 12, 11], 96, 32, [0, 0, 0])
        self.check(12, 64, [10, 12, 11], 96, 32, NONE)
        # 0 and 64 along, each 30 beside: 4096 by 2, 900, 64 * 30 by 2.
        self.check(10, 4096, [10, 11, 11], 96, 2, [2048, 900, 960])

    def test_squares_just_between_two_the_greater_is_told(self):
        # 255 + 65 * 65 by 256 is 17 and a half, 255 + 63 * 63 by 256 is 16 and a half.
        self.check(0, 4096, [255, 1], 31, 32, [18, 0, 0])
        self.check(0, 4096, [255, 1], 33, 32, [17, 0, 0])

    def test_squares_a_little_beside_the_half(self):
        # 256 + 4225 by 257 is below 17 and a half, 254 + 4225 by 255 above it.
        self.check(0, 4096, [256, 1], 31, 32, [17, 0, 0])
        self.check(0, 4096, [254, 1], 31, 32, [18, 0, 0])

    def test_third_width_just_between_two_the_greater_is_told(self):
        # 64 times 1, 3, -1, -3 by 128.
        self.check(0, 4096, [127, 1], 32, 31, [32, 1, 1])
        self.check(0, 4096, [127, 1], 32, 29, [32, 9, 2])
        self.check(0, 4096, [127, 1], 32, 33, [32, 1, 0])
        self.check(0, 4096, [127, 1], 32, 35, [32, 9, BELOW - 1])

    def test_third_width_a_little_beside_the_half(self):
        # By 127 they're a little farther from 0, by 129 a little nearer.
        self.check(0, 4096, [126, 1], 32, 31, [32, 1, 1])
        self.check(0, 4096, [126, 1], 32, 33, [32, 1, BELOW - 1])
        self.check(0, 4096, [126, 1], 32, 35, [32, 9, BELOW - 2])
        self.check(0, 4096, [128, 1], 32, 31, [32, 1, 0])
        self.check(0, 4096, [128, 1], 32, 33, [32, 1, 0])
        self.check(0, 4096, [128, 1], 32, 35, [32, 9, BELOW - 1])

    def test_place_outside_of_the_frame(self):
        # 64 and 128 beside the two middles: 3 * 4096 + 16384 by 4.
        self.check(0, 128, [1, 3], 160, 32, [7168, 0, 0])
        self.check(0, 127, [1, 3], 160, 32, [4096, 0, 0])
        self.check(0, 63, [1, 3], 160, 32, NONE)
        self.check(0, 64, [1, 3], 32, 96, [0, 4096, 0])

    def test_longest_row_and_longest_column(self):
        self.check(0, 64, [0] * 63 + [65535], 4000, 32, [4096, 0, 0])
        # 2896 beside the row and before its last place: the greatest third widths.
        self.check(0, 4096, [0] * 63 + [65535], 1168, 2928, [8386816, 8386816, BELOW - 8386816])


class SeveralRows(unittest.TestCase):
    def check(self, level, r, f, want):
        self.assertEqual(ap_moments(level, r, 2, 2, f, [64, 64]), [0] + want)

    def test_where_four_places_meet(self):
        # Each is 32 across and 32 down from there: 1024 times (the first and last less the others), by all.
        self.check(0, 46, [1, 2, 3, 4], [1024, 1024, 0])
        self.check(0, 46, [3, 1, 1, 3], [1024, 1024, 512])
        self.check(0, 46, [4, 1, 1, 4], [1024, 1024, 614])
        self.check(0, 46, [1, 4, 4, 1], [1024, 1024, BELOW - 614])
        self.check(0, 46, [0, 1, 1, 0], [1024, 1024, BELOW - 1024])
        self.check(0, 45, [4, 1, 1, 4], NONE)

    def test_levels(self):
        self.check(10, 46, [14, 11, 11, 14], [1024, 1024, 614])
        self.check(11, 46, [14, 11, 11, 14], [1024, 1024, 1024])
        self.check(13, 46, [14, 11, 11, 14], [1024, 1024, 1024])
        self.check(14, 46, [14, 11, 11, 14], NONE)

    def test_rows_follow_one_another(self):
        # About (0, 0) one place's widths are the squares of its middle, and their product.
        for k in range(6):
            f = [3] * 6
            f[k] = 4
            for w, h in ((3, 2), (2, 3)):
                px = 64 * (k % w) + 32
                py = 64 * (k // w) + 32
                self.assertEqual(ap_moments(3, 4096, w, h, f, [0, 0]), [0, px * px, py * py, px * py])

    def test_place_that_is_no_middle(self):
        # From (61, 47) -29 and 35 across, -15 and 49 down: squares of 1066, 1450, 3242, 3626.
        f = [1, 1, 1, 5]
        self.assertEqual(ap_moments(0, 33, 2, 2, f, [61, 47]), [0, 841, 225, 435])
        # 841 + 1225 by 2; 225; 435 - 525 by 2.
        self.assertEqual(ap_moments(0, 39, 2, 2, f, [61, 47]), [0, 1033, 225, BELOW - 45])
        # 2907 by 3; 225 + 225 + 2401 = 2851 by 3; 435 - 525 - 1421 = -1511 by 3.
        self.assertEqual(ap_moments(0, 57, 2, 2, f, [61, 47]), [0, 969, 950, BELOW - 504])
        # 2907 + 5 * 1225 by 8; 2851 + 5 * 2401 by 8; -1511 + 5 * 1715 by 8.
        self.assertEqual(ap_moments(0, 61, 2, 2, f, [61, 47]), [0, 1129, 1857, 883])

    def test_frame_that_is_alike_has_no_star(self):
        self.assertEqual(ap_moments(300, 4096, 4, 3, [300] * 12, [100, 90]), [0] + NONE)

    def test_largest_frame(self):
        # 4096 times the squares of a half, one and a half, .. up to 31 and a half, twice, by 64.
        full = [65535] * 4096
        self.assertEqual(ap_moments(0, 4096, 64, 64, full, [2048, 2048]), [0, 1397760, 1397760, 0])
        self.assertEqual(ap_moments(65534, 4096, 64, 64, full, [2048, 2048]), [0, 1397760, 1397760, 0])
        self.assertEqual(ap_moments(65535, 4096, 64, 64, full, [2048, 2048]), [0] + NONE)


class Places(unittest.TestCase):
    def test_no_place(self):
        self.assertEqual(ap_moments(0, 10, 1, 1, [7], []), [0])
        self.assertEqual(ap_moments(65535, 4096, 64, 64, [65535] * 4096, []), [0])

    def test_those_without_weights_beside_those_with(self):
        xy = [200, 32, 64, 30, 65535, 0, 80, 32, 64, 90]
        want = [0] + NONE + [1024, 4, 32] + NONE + [768, 0, 0] + NONE
        self.assertEqual(ap_moments(0, 48, 2, 1, [1, 3], xy), want)

    def test_sixty_four_places(self):
        want = [0] + [9, 16, 12] * 63 + [9, 16, BELOW - 12]
        self.assertEqual(ap_moments(0, 5, 1, 1, [7], [29, 28] * 63 + [35, 28]), want)


class Refusals(unittest.TestCase):
    def refused(self, level, r, w, h, f, xy):
        self.assertEqual(ap_moments(level, r, w, h, f, xy), [-2])

    def refused_with_any_lists(self, level, r):
        self.refused(level, r, 1, 1, [7], [32, 32])
        self.refused(level, r, 1, 1, [7], [])
        self.refused(level, r, 1, 1, [], [])
        self.refused(level, r, 64, 64, [], [])

    def test_level(self):
        for level in (65536, 4294967295):
            self.refused_with_any_lists(level, 0)
            self.refused_with_any_lists(level, 4096)

    def test_radius(self):
        for r in (4097, 4294967295):
            self.refused_with_any_lists(0, r)
            self.refused_with_any_lists(65535, r)

    def test_sides(self):
        self.refused(0, 1, 0, 1, [], [32, 32])
        self.refused(0, 1, 1, 0, [], [32, 32])
        self.refused(0, 1, 65, 1, [7] * 65, [32, 32])
        self.refused(0, 1, 1, 65, [7] * 65, [32, 32])
        self.refused(0, 1, 65, 64, [7] * 4160, [32, 32])
        self.refused(0, 1, 64, 65, [7] * 4160, [])

    def test_sides_with_empty_lists(self):
        for side in (0, 65, 4294967295):
            self.refused(0, 1, side, 1, [], [])
            self.refused(0, 1, 1, side, [], [])
            self.refused(0, 1, side, side, [], [])
            self.refused(65536, 4097, side, side, [], [])

    def test_too_many_places(self):
        self.refused(0, 1, 1, 1, [7], [32, 32] * 65)
        self.refused(0, 1, 1, 1, [7], [32, 32] * 70)
        self.refused(65536, 4097, 0, 65, [], [32, 32] * 65)


if __name__ == "__main__":
    unittest.main()
