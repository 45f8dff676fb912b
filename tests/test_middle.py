"""Promise 2 as far as it speaks of ap_middle. Answers are worked out by hand from the document."""

import unittest

from starlight.heaps import ap_middle

NONE = 4294967295


class OnePlace(unittest.TestCase):
    def check(self, level, r, m, xy, want):
        self.assertEqual(ap_middle(level, r, m, 1, 1, [7], xy), [0] + want)

    def test_no_time_answers_the_place_itself(self):
        self.check(0, 4096, 0, [32, 32], [32, 32])
        self.check(0, 4096, 0, [5, 60], [5, 60])
        self.check(0, 0, 0, [0, 65535], [0, 65535])

    def test_no_time_where_there_is_no_weight(self):
        self.check(7, 4096, 0, [5, 60], [5, 60])
        self.check(0, 0, 0, [5, 60], [5, 60])
        self.check(65535, 4096, 0, [65535, 65535], [65535, 65535])

    def test_once_and_more(self):
        for m in (1, 2, 32):
            self.check(0, 4096, m, [32, 32], [32, 32])
            self.check(0, 4096, m, [0, 0], [32, 32])
            self.check(0, 4096, m, [5, 60], [32, 32])

    def test_just_r_from_the_middle_and_farther(self):
        # 3 and 4 across and down, to each side.
        for m in (1, 32):
            for xy in ([29, 28], [35, 36], [28, 35], [36, 29]):
                self.check(0, 5, m, xy, [32, 32])
                self.check(0, 4, m, xy, [NONE, NONE])
            self.check(0, 5, m, [29, 27], [NONE, NONE])
            self.check(0, 5, m, [28, 28], [NONE, NONE])

    def test_radius_of_nothing(self):
        for m in (1, 32):
            self.check(0, 0, m, [32, 32], [32, 32])
            for xy in ([33, 32], [31, 32], [32, 33], [32, 31]):
                self.check(0, 0, m, xy, [NONE, NONE])

    def test_largest_radius(self):
        for xy in ([32, 4128], [4128, 32]):
            self.check(0, 4096, 1, xy, [32, 32])
            self.check(0, 4095, 1, xy, [NONE, NONE])
        self.check(0, 4096, 1, [33, 4128], [NONE, NONE])
        self.check(0, 4096, 1, [4128, 33], [NONE, NONE])
        self.check(0, 4096, 1, [65535, 65535], [NONE, NONE])

    def test_just_the_level_and_just_above_it(self):
        for m in (1, 32):
            self.check(6, 4096, m, [5, 60], [32, 32])
            self.check(7, 4096, m, [5, 60], [NONE, NONE])
            self.check(8, 4096, m, [5, 60], [NONE, NONE])
            self.check(65535, 4096, m, [5, 60], [NONE, NONE])

    def test_least_and_greatest_levels_and_numbers(self):
        self.assertEqual(ap_middle(0, 4096, 1, 1, 1, [0], [5, 60]), [0, NONE, NONE])
        self.assertEqual(ap_middle(0, 4096, 1, 1, 1, [1], [5, 60]), [0, 32, 32])
        self.assertEqual(ap_middle(65534, 4096, 1, 1, 1, [65535], [5, 60]), [0, 32, 32])
        self.assertEqual(ap_middle(65535, 4096, 1, 1, 1, [65535], [5, 60]), [0, NONE, NONE])


class RowsAndColumns(unittest.TestCase):
    def check(self, level, r, m, f, along, want):
        """From along, told on the row's (or the column's) middle line, to want."""
        across = ap_middle(level, r, m, len(f), 1, f, [along, 32])
        down = ap_middle(level, r, m, 1, len(f), f, [32, along])
        if want == NONE:
            self.assertEqual((across, down), ([0, NONE, NONE], [0, NONE, NONE]))
        else:
            self.assertEqual((across, down), ([0, want, 32], [0, 32, want]))

    def test_by_their_weights(self):
        # 32 + 3 * 96 by 4.
        self.check(0, 4096, 1, [1, 3], 10, 80)
        # 2 * 32 + 0 * 96 + 6 * 160 by 8.
        self.check(0, 4096, 1, [2, 0, 6], 10, 128)

    def test_what_is_above_the_level_counts(self):
        # Weights of 1, 3, 2; of 0, 2, 1; of 0, 1, 0; of none: 640 by 6, 352 by 3, 96.
        self.check(9, 4096, 1, [10, 12, 11], 96, 107)
        self.check(10, 4096, 1, [10, 12, 11], 96, 117)
        self.check(11, 4096, 1, [10, 12, 11], 96, 96)
        self.check(12, 4096, 1, [10, 12, 11], 96, NONE)

    def test_just_between_two_the_greater_is_told(self):
        # 127 * 32 + 96 by 128 is 32 and a half, 32 + 127 * 96 by 128 is 95 and a half.
        self.check(0, 4096, 1, [127, 1], 10, 33)
        self.check(0, 4096, 1, [1, 127], 10, 96)

    def test_a_little_beside_the_half(self):
        # 128 * 32 + 96 by 129 is below 32 and a half, 126 * 32 + 96 by 127 above it.
        self.check(0, 4096, 1, [128, 1], 10, 32)
        self.check(0, 4096, 1, [126, 1], 10, 33)
        # 32 + 128 * 96 by 129 is above 95 and a half, 32 + 126 * 96 by 127 below it.
        self.check(0, 4096, 1, [1, 128], 10, 96)
        self.check(0, 4096, 1, [1, 126], 10, 95)

    def test_between_two_as_near_it_stays_at_the_greater(self):
        for m in (1, 2, 32):
            self.check(0, 4096, m, [127, 1], 32, 33)
            self.check(0, 4096, m, [127, 1], 33, 33)

    def test_it_stays_at_once(self):
        for m in (0, 1, 2, 32):
            self.check(0, 64, m, [5, 9, 5], 96, 96)
            self.check(0, 63, m, [1, 9, 5], 96, 96)

    def test_it_changes_several_times_and_stays(self):
        # From 64 both are just 32 away; from 80 only the second one is near, and there it stays.
        for m, want in ((0, 64), (1, 80), (2, 96), (3, 96), (32, 96)):
            self.check(0, 32, m, [1, 3], 64, want)
        # From 96 all three are near; from 107 the first one, 75 away, is not: 608 by 5.
        for m, want in ((0, 96), (1, 107), (2, 122), (3, 122), (32, 122)):
            self.check(9, 64, m, [10, 12, 11], 96, want)

    def test_a_long_way_and_then_it_stays(self):
        # Each number is twice the one ahead. By turns three places are near (640 by 7 behind the first one's middle)
        # and the last two of them (128 by 3): 64 farther in each two times, up to the last three places.
        f = [1, 2, 4, 8, 16, 32, 64, 128, 256, 512, 1024, 2048, 4096, 8192, 16384, 32768]
        for k in range(14):
            self.check(0, 86, 2 * k, f, 75, 75 + 64 * k)
            self.check(0, 86, 2 * k + 1, f, 75, 123 + 64 * k)
        for m in (28, 29, 32):
            self.check(0, 86, m, f, 75, 971)

    def test_no_weight_near_at_the_first_time(self):
        for m in (1, 2, 32):
            self.check(0, 31, m, [1, 3], 64, NONE)
            self.check(0, 63, m, [1, 0, 1], 96, NONE)
            self.check(0, 64, m, [1, 0, 1], 96, 96)

    def test_still_changing_when_m_is_used_up(self):
        # Six fifths of the one ahead, rounded down: it goes on and on, and has not come to the end after 32 times.
        f = [100]
        while f[-1] * 6 // 5 < 65536:
            f.append(f[-1] * 6 // 5)
        ways = [ap_middle(0, 148, m, len(f), 1, f, [164, 32])[1] for m in range(33)]
        self.assertEqual(ways, sorted(set(ways)))
        # From where it has come to it goes on just as if it had come from there.
        for m in range(32):
            self.assertEqual(ap_middle(0, 148, 1, len(f), 1, f, [ways[m], 32]), [0, ways[m + 1], 32])
        self.assertNotEqual(ap_middle(0, 148, 1, len(f), 1, f, [ways[32], 32]), [0, ways[32], 32])

    def test_longest_row_and_longest_column(self):
        self.check(0, 64, 1, [0] * 63 + [65535], 4000, 4064)
        self.check(0, 4096, 1, [65535] * 64, 2048, 2048)
        self.check(65534, 4096, 1, [65535] + [65534] * 62 + [65535], 2048, 2048)


class SeveralRows(unittest.TestCase):
    def test_across_and_down(self):
        # From (64, 64) all four are within 46: 704 and 768 by 10. From (70, 77) only the lower two: 480 by 7.
        for m, want in ((0, [64, 64]), (1, [70, 77]), (2, [69, 96]), (3, [69, 96]), (32, [69, 96])):
            self.assertEqual(ap_middle(0, 46, m, 2, 2, [1, 2, 3, 4], [64, 64]), [0] + want)
        # They're a square of 2048 away, more than that of 45.
        self.assertEqual(ap_middle(0, 45, 1, 2, 2, [1, 2, 3, 4], [64, 64]), [0, NONE, NONE])

    def test_rows_follow_one_another(self):
        for k in range(6):
            f = [3] * 6
            f[k] = 4
            self.assertEqual(ap_middle(3, 4096, 1, 3, 2, f, [7, 9]), [0, 64 * (k % 3) + 32, 64 * (k // 3) + 32])
            self.assertEqual(ap_middle(3, 4096, 1, 2, 3, f, [7, 9]), [0, 64 * (k % 2) + 32, 64 * (k // 2) + 32])

    def test_one_coordinate_stays_and_the_other_changes(self):
        self.assertEqual(ap_middle(0, 4096, 1, 2, 2, [1, 1, 3, 3], [64, 64]), [0, 64, 80])
        self.assertEqual(ap_middle(0, 4096, 1, 2, 2, [1, 3, 1, 3], [64, 64]), [0, 80, 64])
        # It goes on while one of them changes: from (64, 80) the upper two are farther than 46, the lower two aren't.
        self.assertEqual(ap_middle(0, 46, 2, 2, 2, [1, 1, 3, 3], [64, 64]), [0, 64, 96])
        self.assertEqual(ap_middle(0, 46, 2, 2, 2, [1, 3, 1, 3], [64, 64]), [0, 96, 64])

    def test_each_is_rounded_by_itself(self):
        # 32 and a half across, 95 and a half down.
        self.assertEqual(ap_middle(0, 4096, 1, 2, 2, [0, 1, 127, 0], [64, 64]), [0, 33, 96])

    def test_place_outside_of_the_frame(self):
        # The right column's middles are 64 and a square of 8192 away.
        self.assertEqual(ap_middle(0, 64, 1, 2, 2, [1, 1, 1, 1], [160, 32]), [0, 96, 32])
        self.assertEqual(ap_middle(0, 91, 1, 2, 2, [1, 1, 1, 1], [160, 32]), [0, 96, 64])
        self.assertEqual(ap_middle(0, 63, 1, 2, 2, [1, 1, 1, 1], [160, 32]), [0, NONE, NONE])

    def test_place_that_is_no_middle(self):
        # From (61, 47): squares of 29 * 29 + 15 * 15 and 35 * 35 + 15 * 15 above, 49 in place of 15 below.
        self.assertEqual(ap_middle(0, 33, 1, 2, 2, [1, 1, 1, 5], [61, 47]), [0, 32, 32])
        self.assertEqual(ap_middle(0, 39, 1, 2, 2, [1, 1, 1, 5], [61, 47]), [0, 64, 32])
        self.assertEqual(ap_middle(0, 57, 1, 2, 2, [1, 1, 1, 5], [61, 47]), [0, 53, 53])
        self.assertEqual(ap_middle(0, 61, 1, 2, 2, [1, 1, 1, 5], [61, 47]), [0, 80, 80])

    def test_frame_that_is_alike_has_no_star(self):
        f = [300] * 12
        self.assertEqual(ap_middle(300, 4096, 32, 4, 3, f, [100, 90]), [0, NONE, NONE])

    def test_largest_frame(self):
        full = [65535] * 4096
        self.assertEqual(ap_middle(0, 4096, 32, 64, 64, full, [2048, 2048]), [0, 2048, 2048])
        self.assertEqual(ap_middle(0, 4096, 1, 64, 64, full, [2000, 2100]), [0, 2048, 2048])
        self.assertEqual(ap_middle(65535, 4096, 32, 64, 64, full, [2048, 2048]), [0, NONE, NONE])


class LaterTimes(unittest.TestCase):
    def test_where_there_was_a_middle_there_is_one_at_the_next_time(self):
        # The rounded middle is the whole place nearest to the middle, so that by their weights the squares of the
        # distances are no greater from it than from the place ahead: one of them stays within r. So a sum of 0 is
        # met at the first time or never.
        for many in range(1, 512):
            f = [many >> k & 1 for k in range(9)]
            for r in (0, 32, 45, 46, 64, 71, 90, 91):
                xy = [at for x in (32, 64, 96, 127) for y in (31, 64, 97) for at in (x, y)]
                once = ap_middle(0, r, 1, 3, 3, f, xy)
                often = ap_middle(0, r, 32, 3, 3, f, xy)
                self.assertEqual([at == NONE for at in once], [at == NONE for at in often], (f, r))


class Places(unittest.TestCase):
    def test_no_place(self):
        self.assertEqual(ap_middle(0, 10, 1, 1, 1, [7], []), [0])
        self.assertEqual(ap_middle(65535, 4096, 32, 64, 64, [65535] * 4096, []), [0])

    def test_places_in_their_order(self):
        # One with no weight near leaves those behind it as they are.
        xy = [64, 32, 200, 32, 32, 32, 64, 33, 96, 40]
        self.assertEqual(ap_middle(0, 32, 1, 2, 1, [1, 3], xy), [0, 80, 32, NONE, NONE, 32, 32, NONE, NONE, 96, 32])

    def test_sixty_four_places(self):
        want = [0] + [80, 32] * 63 + [32, 32]
        self.assertEqual(ap_middle(0, 32, 1, 2, 1, [1, 3], [64, 32] * 63 + [30, 30]), want)


class Refusals(unittest.TestCase):
    def refused(self, level, r, m, w, h, f, xy):
        self.assertEqual(ap_middle(level, r, m, w, h, f, xy), [-2])

    def refused_with_any_lists(self, level, r, m):
        self.refused(level, r, m, 1, 1, [7], [32, 32])
        self.refused(level, r, m, 1, 1, [7], [])
        self.refused(level, r, m, 1, 1, [], [])
        self.refused(level, r, m, 64, 64, [], [])

    def test_level(self):
        for level in (65536, 4294967295):
            self.refused_with_any_lists(level, 0, 0)
            self.refused_with_any_lists(level, 4096, 32)

    def test_radius(self):
        for r in (4097, 4294967295):
            self.refused_with_any_lists(0, r, 0)
            self.refused_with_any_lists(65535, r, 32)

    def test_times(self):
        for m in (33, 4294967295):
            self.refused_with_any_lists(0, 0, m)
            self.refused_with_any_lists(65535, 4096, m)

    def test_just_within(self):
        self.assertEqual(ap_middle(65535, 4096, 32, 1, 1, [7], [32, 32]), [0, NONE, NONE])
        self.assertEqual(ap_middle(65535, 4096, 32, 1, 1, [7], []), [0])

    def test_sides(self):
        self.refused(0, 1, 1, 0, 1, [], [32, 32])
        self.refused(0, 1, 1, 1, 0, [], [32, 32])
        self.refused(0, 1, 1, 65, 1, [7] * 65, [32, 32])
        self.refused(0, 1, 1, 1, 65, [7] * 65, [32, 32])
        self.refused(0, 1, 1, 65, 64, [7] * 4160, [32, 32])
        self.refused(0, 1, 1, 64, 65, [7] * 4160, [])
        self.refused(0, 1, 0, 65, 1, [7] * 65, [32, 32])

    def test_sides_with_empty_lists(self):
        for side in (0, 65, 4294967295):
            self.refused(0, 1, 1, side, 1, [], [])
            self.refused(0, 1, 1, 1, side, [], [])
            self.refused(0, 1, 1, side, side, [], [])
            self.refused(65536, 4097, 33, side, side, [], [])

    def test_too_many_places(self):
        self.refused(0, 1, 1, 1, 1, [7], [32, 32] * 65)
        self.refused(0, 1, 0, 1, 1, [7], [32, 32] * 70)
        self.refused(65536, 4097, 33, 0, 65, [], [32, 32] * 65)


if __name__ == "__main__":
    unittest.main()
