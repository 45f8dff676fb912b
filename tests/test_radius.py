"""Promise 3, ap_radius. Answers are worked out by hand from the document."""

import unittest

from starlight.heaps import ap_aperture, ap_radius

# About the middle of a place its sixteen points lie at 8 or 24 across and down: four at a
# squared distance of 128 (12 reaches them), eight at 640 (26), four at 1152 (34).


class OnePlace(unittest.TestCase):
    def check(self, most, k, xy, want):
        self.assertEqual(ap_radius(most, k, 1, 1, [7], xy), [0, want], (most, k, xy))

    def test_four_eight_four_points_about_the_middle(self):
        # Four points are just 64 256ths of sixteen, twelve just 192.
        self.check(512, 1, [32, 32], 12)
        self.check(512, 63, [32, 32], 12)
        self.check(512, 64, [32, 32], 12)
        self.check(512, 65, [32, 32], 26)
        self.check(512, 128, [32, 32], 26)
        self.check(512, 192, [32, 32], 26)
        self.check(512, 193, [32, 32], 34)
        self.check(512, 255, [32, 32], 34)
        self.check(512, 256, [32, 32], 34)

    def test_share_is_that_of_what_is_within_most(self):
        # Four of twelve: 256 * 4 is 1024, 85 * 12 is 1020, 86 * 12 is 1032.
        for most in (26, 33):
            self.check(most, 85, [32, 32], 12)
            self.check(most, 86, [32, 32], 26)
            self.check(most, 256, [32, 32], 26)
        for most in (12, 25):
            self.check(most, 1, [32, 32], 12)
            self.check(most, 256, [32, 32], 12)

    def test_most_just_reaches_the_last_points(self):
        self.check(33, 256, [32, 32], 26)
        self.check(34, 256, [32, 32], 34)
        self.check(35, 256, [32, 32], 34)

    def test_no_share(self):
        for most in (0, 11, 12, 34, 512):
            self.check(most, 0, [32, 32], 0)

    def test_aperture_without_a_point(self):
        for k in (0, 1, 128, 256):
            self.check(0, k, [32, 32], 0)
            self.check(11, k, [32, 32], 0)
            self.check(512, k, [65535, 65535], 0)
            self.check(512, k, [65535, 0], 0)
            self.check(512, k, [0, 65535], 0)

    def test_numbers_that_are_all_nothing(self):
        for k in (0, 1, 128, 256):
            self.assertEqual(ap_radius(512, k, 1, 1, [0], [32, 32]), [0, 0])

    def test_radius_of_nothing_on_a_point(self):
        # One point of sixteen is just 16 256ths; the next two are 16 away, the fourth 22.6.
        self.check(0, 256, [8, 8], 0)
        self.check(15, 256, [8, 8], 0)
        self.check(512, 1, [8, 8], 0)
        self.check(512, 16, [8, 8], 0)
        self.check(512, 17, [8, 8], 16)
        self.check(512, 48, [8, 8], 16)
        self.check(512, 49, [8, 8], 23)
        # The farthest is 48 across and down: 67 * 67 is 4489, 68 * 68 is 4624, and it's at 4608.
        self.check(512, 256, [8, 8], 68)

    def test_place_that_is_no_middle(self):
        # 3 across and 4 down from the point at (8, 8).
        self.check(4, 256, [5, 4], 0)
        self.check(5, 256, [5, 4], 5)
        self.check(512, 1, [5, 4], 5)
        self.check(512, 16, [5, 4], 5)
        # Next is (24, 8): 19 across and 4 down, a square of 377 (19 * 19 is 361, 20 * 20 is 400).
        self.check(512, 17, [5, 4], 20)
        # One more 64th across to the left: 4 across and 4 down, a square of 32.
        self.check(512, 16, [4, 4], 6)

    def test_place_outside_of_the_frame(self):
        # Two points each at squares of 1664, 2176, 3200, 3712, 5248, 5760, 7808 and 8320.
        for xy in ([96, 32], [32, 96]):
            for points, want in enumerate((41, 47, 57, 61, 73, 76, 89, 92)):
                self.check(512, 32 * points + 1, xy, want)
                self.check(512, 32 * points + 32, xy, want)
            self.check(40, 256, xy, 0)
            self.check(41, 256, xy, 41)
            self.check(91, 256, xy, 89)
            self.check(92, 256, xy, 92)

    def test_most_that_may_be_reaches_just_so_far(self):
        # (8, 8) is just 512 away, and its neighbours as far along are farther; the twelve others are nearer.
        for xy in ([8, 520], [520, 8]):
            # Thirteen points within 512: 256 * 12 is 3072, 236 * 13 is 3068, 237 * 13 is 3081.
            self.check(512, 237, xy, 512)
            self.check(512, 256, xy, 512)
            # The farthest of the twelve is 48 and 496 away: a square of 248320, between those of 498 and 499.
            self.check(512, 236, xy, 499)
            self.check(511, 256, xy, 499)

    def test_greatest_number(self):
        self.assertEqual(ap_radius(512, 64, 1, 1, [65535], [32, 32]), [0, 12])
        self.assertEqual(ap_radius(512, 65, 1, 1, [65535], [32, 32]), [0, 26])
        self.assertEqual(ap_radius(512, 256, 1, 1, [65535], [32, 32]), [0, 34])


class RowsAndColumns(unittest.TestCase):
    def check(self, most, k, f, along, beside, want):
        self.assertEqual(ap_radius(most, k, len(f), 1, f, [along, beside]), [0, want], (most, k))
        self.assertEqual(ap_radius(most, k, 1, len(f), f, [beside, along]), [0, want], (most, k))

    # From (63, 8) the nearest points are 7 away in the first place and 9 in the second; all others are farther than 9.

    def test_just_the_share(self):
        # 256 * 255 is 255 * 256.
        self.check(9, 255, [255, 1], 63, 8, 7)
        self.check(9, 256, [255, 1], 63, 8, 9)

    def test_just_less_than_the_share(self):
        # 256 * 254 is 65024, 255 * 255 is 65025, 254 * 255 is 64770.
        self.check(9, 255, [254, 1], 63, 8, 9)
        self.check(9, 254, [254, 1], 63, 8, 7)

    def test_just_more_than_the_share(self):
        # 256 * 256 is 65536, 255 * 257 is 65535.
        self.check(9, 255, [256, 1], 63, 8, 7)

    def test_greatest_numbers_just_about_the_share(self):
        self.check(9, 128, [65535, 65535], 63, 8, 7)
        self.check(9, 128, [65534, 65535], 63, 8, 9)
        self.check(9, 129, [65535, 65535], 63, 8, 9)
        # 256 * 65535 is 16776960, 255 * 65536 is 16711680, 256 * 65536 is 16777216.
        self.check(9, 255, [65535, 1], 63, 8, 7)
        self.check(9, 256, [65535, 1], 63, 8, 9)

    def test_places_without_light_are_passed_over(self):
        self.check(9, 1, [0, 1], 63, 8, 9)
        self.check(9, 256, [0, 1], 63, 8, 9)
        self.check(9, 256, [1, 0], 63, 8, 7)
        self.check(9, 256, [0, 0], 63, 8, 0)
        self.check(8, 256, [0, 1], 63, 8, 0)

    def test_light_aside(self):
        # The third place's points are 104, 120, 136, 152 along and 8 or 24 beside: 10880, .., 14976, .., 23680.
        self.check(512, 1, [0, 0, 5], 32, 32, 105)
        self.check(512, 128, [0, 0, 5], 32, 32, 123)
        self.check(512, 256, [0, 0, 5], 32, 32, 154)
        self.check(104, 256, [0, 0, 5], 32, 32, 0)
        self.check(105, 256, [0, 0, 5], 32, 32, 105)

    def test_numbers_beyond_most_do_not_count(self):
        # The neighbour's nearest points are a square of 1664 away.
        self.check(40, 256, [1, 65535], 32, 32, 34)
        self.check(41, 256, [1, 65535], 32, 32, 41)
        self.check(41, 1, [1, 65535], 32, 32, 41)

    def test_far_end_of_most(self):
        # The ninth place's one point at 512 along, straight; the first place's sixteen within 68.
        far = [1, 0, 0, 0, 0, 0, 0, 0, 1]
        self.check(512, 256, far, 8, 8, 512)
        # 256 * 16 is 4096; 240 * 17 is 4080, 241 * 17 is 4097.
        self.check(512, 241, far, 8, 8, 512)
        self.check(512, 240, far, 8, 8, 68)
        self.check(511, 256, far, 8, 8, 68)

    def test_longest_row_and_longest_column(self):
        f = [0] * 63 + [65535]
        self.check(512, 64, f, 4064, 32, 12)
        self.check(512, 256, f, 4064, 32, 34)
        self.check(512, 256, f, 32, 32, 0)
        # 64 beyond the frame's end, and seven places ahead of the last one's middle.
        self.check(512, 256, f, 4128, 32, 92)
        # 424 to 472 along and 24 beside: 472 * 472 + 576 is 223360, 472 * 472 is 222784, 473 * 473 is 223729.
        self.check(512, 256, f, 3616, 32, 473)


class SeveralRows(unittest.TestCase):
    def test_where_four_places_meet(self):
        # Of each place one point at 128, two at 640, one at 1152, two at 1664, two at 2176, three at 3200,
        # two at 3712, two at 4736, one at 6272: in all 10, 30, 40, 60, 80, 110, 130, 150, 160.
        reaches = ((10, 12), (30, 26), (40, 34), (60, 41), (80, 47), (110, 57), (130, 61), (150, 69), (160, 80))
        for k in range(1, 257):
            want = [radius for numbers, radius in reaches if 256 * numbers >= k * 160][0]
            self.assertEqual(ap_radius(512, k, 2, 2, [1, 2, 3, 4], [64, 64]), [0, want], k)

    def test_rows_follow_one_another(self):
        # One place alone has light; from its middle it's all within 34, from its neighbours' within 92.
        for w, h in ((3, 2), (2, 3)):
            for lit in range(6):
                f = [0] * 6
                f[lit] = 9
                x = 64 * (lit % w) + 32
                y = 64 * (lit // w) + 32
                xy = [x, y, x + 64, y, x, y + 64]
                self.assertEqual(ap_radius(512, 256, w, h, f, xy), [0, 34, 92, 92], (w, h, lit))

    def test_middle_of_a_star(self):
        # The middle place's sixteen points are 16 * 90, its neighbours' all together 8 * 16 * 10.
        f = [10, 10, 10, 10, 90, 10, 10, 10, 10]
        # Twelve points are 1080, sixteen 1440 of 2720: 256 * 1080 is 276480 and 101 * 2720 is 274720.
        self.assertEqual(ap_radius(512, 101, 3, 3, f, [96, 96]), [0, 26])
        self.assertEqual(ap_radius(512, 102, 3, 3, f, [96, 96]), [0, 34])
        # 256 * 1440 is 368640; 135 * 2720 is 367200 and 136 * 2720 is 369920: two points more of each of four, at 1664.
        self.assertEqual(ap_radius(512, 135, 3, 3, f, [96, 96]), [0, 34])
        self.assertEqual(ap_radius(512, 136, 3, 3, f, [96, 96]), [0, 41])
        # The corners' last points are 88 across and down: a square of 15488, between those of 124 and 125.
        self.assertEqual(ap_radius(512, 256, 3, 3, f, [96, 96]), [0, 125])

    def test_largest_frame(self):
        f = [65535] * 4096
        # Points lie at odd eighths of a place across and down; 63 and 11 of them are a square of 261760,
        # farther than 511 and within 512.
        self.assertEqual(ap_radius(512, 256, 64, 64, f, [2048, 2048]), [0, 512])
        self.assertEqual(ap_radius(512, 0, 64, 64, f, [2048, 2048]), [0, 0])
        self.assertEqual(ap_radius(12, 256, 64, 64, f, [2048, 2048]), [0, 12])
        self.assertEqual(ap_radius(512, 256, 64, 64, [0] * 4096, [2048, 2048]), [0, 0])

    def test_last_place_of_the_largest_frame(self):
        f = [0] * 4095 + [65535]
        self.assertEqual(ap_radius(512, 256, 64, 64, f, [4064, 4064, 4096, 4096, 2048, 2048]), [0, 34, 80, 0])

    def test_half_the_light_is_within_and_not_within_any_less(self):
        f = [k * k % 211 for k in range(12 * 9)]
        xy = [300, 200, 5, 7, 767, 575, 64, 320, 900, 100]
        for most in (60, 300, 512):
            whole = ap_aperture(most, 12, 9, f, xy)[1::2]
            for k in (1, 90, 128, 255, 256):
                answer = ap_radius(most, k, 12, 9, f, xy)
                for at, r in enumerate(answer[1:]):
                    place = xy[2 * at:2 * at + 2]
                    self.assertLessEqual(r, most)
                    self.assertGreaterEqual(256 * ap_aperture(r, 12, 9, f, place)[1], k * whole[at])
                    if r > 0:
                        self.assertLess(256 * ap_aperture(r - 1, 12, 9, f, place)[1], k * whole[at])


class Places(unittest.TestCase):
    def test_no_place(self):
        self.assertEqual(ap_radius(512, 256, 1, 1, [7], []), [0])
        self.assertEqual(ap_radius(0, 0, 1, 1, [7], []), [0])
        self.assertEqual(ap_radius(512, 256, 64, 64, [65535] * 4096, []), [0])

    def test_places_in_their_order(self):
        xy = [32, 32, 8, 8, 65535, 65535, 96, 32, 32, 32]
        self.assertEqual(ap_radius(512, 256, 1, 1, [7], xy), [0, 34, 68, 0, 92, 34])

    def test_sixty_four_places(self):
        self.assertEqual(ap_radius(512, 256, 1, 1, [7], [32, 32] * 63 + [8, 8]), [0] + [34] * 63 + [68])

    def test_lists_stay_and_the_answer_comes_again(self):
        for k in (0, 128, 256, 257):
            f = [60, 10, 50, 20, 40, 30]
            xy = [100, 70, 3, 5, 65535, 0]
            first = ap_radius(300, k, 3, 2, f, xy)
            self.assertEqual((f, xy), ([60, 10, 50, 20, 40, 30], [100, 70, 3, 5, 65535, 0]))
            self.assertEqual(ap_radius(300, k, 3, 2, f, xy), first)
            self.assertEqual((f, xy), ([60, 10, 50, 20, 40, 30], [100, 70, 3, 5, 65535, 0]))


class Refusals(unittest.TestCase):
    def refused(self, most, k, w, h, f, xy):
        self.assertEqual(ap_radius(most, k, w, h, f, xy), [-2])

    def test_most_and_share(self):
        for most, k in ((513, 0), (4294967295, 0), (0, 257), (0, 4294967295), (513, 257), (512, 257), (513, 256)):
            self.refused(most, k, 1, 1, [7], [32, 32])
            self.refused(most, k, 1, 1, [7], [])
            self.refused(most, k, 1, 1, [], [])
            self.refused(most, k, 64, 64, [], [])

    def test_sides(self):
        self.refused(12, 256, 0, 1, [], [32, 32])
        self.refused(12, 256, 1, 0, [], [32, 32])
        self.refused(12, 256, 65, 1, [7] * 65, [32, 32])
        self.refused(12, 256, 1, 65, [7] * 65, [32, 32])
        self.refused(12, 256, 65, 64, [7] * 4160, [32, 32])
        self.refused(12, 256, 64, 65, [7] * 4160, [])

    def test_sides_with_empty_lists(self):
        for side in (0, 65, 4294967295):
            self.refused(12, 256, side, 1, [], [])
            self.refused(12, 256, 1, side, [], [])
            self.refused(12, 256, side, side, [], [])
            self.refused(513, 257, side, side, [], [])

    def test_too_many_places(self):
        self.refused(12, 256, 1, 1, [7], [32, 32] * 65)
        self.refused(12, 256, 1, 1, [7], [32, 32] * 70)
        self.refused(513, 257, 0, 65, [], [32, 32] * 65)


if __name__ == "__main__":
    unittest.main()
