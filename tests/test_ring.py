"""Promise 1 as far as it speaks of ap_ring. Answers are worked out by hand from the document."""

import unittest

from starlight.heaps import ap_ring


class OnePlace(unittest.TestCase):
    def check(self, a, b, xy, want):
        self.assertEqual(ap_ring(a, b, 1, 1, [9], xy), want)

    def test_its_own_middle_is_not_farther_than_nothing(self):
        self.check(0, 0, [32, 32], [0, 0, 0])
        self.check(0, 10, [32, 32], [0, 0, 0])
        self.check(0, 4096, [32, 32], [0, 0, 0])

    def test_one_64th_away(self):
        for xy in ([31, 32], [33, 32], [32, 31], [32, 33]):
            self.check(0, 0, xy, [0, 0, 0])
            self.check(0, 1, xy, [0, 1, 9])
            self.check(1, 2, xy, [0, 0, 0])

    def test_just_a_is_out_and_just_b_is_in(self):
        # 3 across and 4 down from the middle.
        for xy in ([29, 28], [35, 36], [28, 29], [29, 36]):
            self.check(4, 5, xy, [0, 1, 9])
            self.check(0, 5, xy, [0, 1, 9])
            self.check(5, 6, xy, [0, 0, 0])
            self.check(0, 4, xy, [0, 0, 0])

    def test_between_two_whole_distances(self):
        # 1 across and 1 down: a square of 2, farther than 1, no farther than 2.
        self.check(1, 2, [33, 33], [0, 1, 9])
        self.check(0, 1, [33, 33], [0, 0, 0])
        self.check(2, 3, [33, 33], [0, 0, 0])

    def test_a_at_least_b(self):
        self.check(5, 5, [29, 28], [0, 0, 0])
        self.check(6, 4, [29, 28], [0, 0, 0])
        self.check(4096, 0, [29, 28], [0, 0, 0])
        self.check(4096, 4096, [32, 4128], [0, 0, 0])

    def test_largest_radii(self):
        # Just 4096 below, or to the right of, the middle.
        for xy in ([32, 4128], [4128, 32]):
            self.check(4095, 4096, xy, [0, 1, 9])
            self.check(0, 4096, xy, [0, 1, 9])
            self.check(0, 4095, xy, [0, 0, 0])
            self.check(4096, 4096, xy, [0, 0, 0])
        self.check(0, 4096, [33, 4128], [0, 0, 0])

    def test_far_outside_of_the_frame(self):
        self.check(0, 4096, [65535, 65535], [0, 0, 0])
        self.check(0, 4096, [65535, 0], [0, 0, 0])
        self.check(0, 4096, [0, 65535], [0, 0, 0])

    def test_least_and_greatest_numbers(self):
        self.assertEqual(ap_ring(0, 1, 1, 1, [0], [33, 32]), [0, 1, 0])
        self.assertEqual(ap_ring(0, 1, 1, 1, [65535], [33, 32]), [0, 1, 65535])


class SeveralPlaces(unittest.TestCase):
    def check_row_and_column(self, a, b, f, along, want):
        self.assertEqual(ap_ring(a, b, len(f), 1, f, [along, 32]), want)
        self.assertEqual(ap_ring(a, b, 1, len(f), f, [32, along]), want)

    def test_even_number_takes_the_lower_middle(self):
        f = [50, 10, 40, 20, 30]
        self.check_row_and_column(0, 64, f, 160, [0, 2, 10])
        self.check_row_and_column(64, 128, f, 160, [0, 2, 30])
        self.check_row_and_column(0, 128, f, 160, [0, 4, 20])

    def test_edges_of_the_ring(self):
        f = [50, 10, 40, 20, 30]
        self.check_row_and_column(0, 63, f, 160, [0, 0, 0])
        self.check_row_and_column(63, 64, f, 160, [0, 2, 10])
        self.check_row_and_column(63, 127, f, 160, [0, 2, 10])
        self.check_row_and_column(63, 128, f, 160, [0, 4, 20])
        self.check_row_and_column(128, 4096, f, 160, [0, 0, 0])

    def test_odd_number(self):
        f = [50, 10, 40, 20, 30]
        self.check_row_and_column(0, 128, f, 96, [0, 3, 40])
        self.check_row_and_column(0, 4096, f, 161, [0, 5, 30])

    def test_alike_numbers_each_count(self):
        self.check_row_and_column(0, 4096, [5, 5, 1, 5, 9], 161, [0, 5, 5])
        self.check_row_and_column(0, 4096, [1, 9, 1, 1], 97, [0, 4, 1])

    def test_numbers_are_ordered_by_size_and_not_by_digits(self):
        self.check_row_and_column(0, 4096, [9, 10000, 200], 97, [0, 3, 200])

    def test_eight_neighbours(self):
        f = [8, 1, 6, 3, 99, 7, 4, 5, 2]
        # Four at 64, four at a squared distance of 8192 (90 * 90 is 8100, 91 * 91 is 8281).
        self.assertEqual(ap_ring(0, 90, 3, 3, f, [96, 96]), [0, 4, 3])
        self.assertEqual(ap_ring(64, 91, 3, 3, f, [96, 96]), [0, 4, 4])
        self.assertEqual(ap_ring(0, 91, 3, 3, f, [96, 96]), [0, 8, 4])

    def test_rows_follow_one_another(self):
        # Each place by itself, seen from one 64th beside its middle.
        f = [1, 2, 3, 4, 5, 6]
        want = [0, 1, 1, 1, 2, 1, 3, 1, 4, 1, 5, 1, 6]
        self.assertEqual(ap_ring(0, 1, 3, 2, f, [33, 32, 97, 32, 161, 32, 33, 96, 97, 96, 161, 96]), want)
        self.assertEqual(ap_ring(0, 1, 2, 3, f, [33, 32, 97, 32, 33, 96, 97, 96, 33, 160, 97, 160]), want)

    def test_place_outside_of_the_frame(self):
        # The second row's middles are 64 and a square of 8192 away, the first row's farther.
        self.assertEqual(ap_ring(0, 100, 2, 2, [1, 2, 3, 4], [32, 160]), [0, 2, 3])
        self.assertEqual(ap_ring(0, 64, 2, 2, [1, 2, 3, 4], [160, 32]), [0, 1, 2])

    def test_largest_frame(self):
        down = [4095 - k for k in range(4096)]
        self.assertEqual(ap_ring(0, 4096, 64, 64, down, [2048, 2048]), [0, 4096, 2047])
        self.assertEqual(ap_ring(0, 4096, 64, 64, [65535] * 4096, [2048, 2048]), [0, 4096, 65535])
        # From one of the middles that one is left out: 4095 are there, without 0.
        self.assertEqual(ap_ring(0, 4096, 64, 64, [0 if k == 2080 else 3 for k in range(4096)], [2080, 2080]),
                         [0, 4095, 3])

    def test_longest_row_and_longest_column(self):
        self.check_row_and_column(0, 1, [0] * 63 + [65535], 4065, [0, 1, 65535])


class Places(unittest.TestCase):
    def test_no_place(self):
        self.assertEqual(ap_ring(0, 1, 1, 1, [9], []), [0])
        self.assertEqual(ap_ring(4096, 4096, 64, 64, [65535] * 4096, []), [0])

    def test_places_in_their_order(self):
        self.assertEqual(ap_ring(0, 1, 1, 1, [9], [32, 32, 33, 32, 65535, 65535, 32, 31]), [0, 0, 0, 1, 9, 0, 0, 1, 9])

    def test_sixty_four_places(self):
        self.assertEqual(ap_ring(0, 1, 1, 1, [9], [33, 32] * 63 + [32, 32]), [0] + [1, 9] * 63 + [0, 0])


class Refusals(unittest.TestCase):
    def refused(self, a, b, w, h, f, xy):
        self.assertEqual(ap_ring(a, b, w, h, f, xy), [-2])

    def test_radii(self):
        for far in (4097, 4294967295):
            for a, b in ((far, 0), (0, far), (far, far), (far, 4096), (4096, far)):
                self.refused(a, b, 1, 1, [9], [33, 32])
                self.refused(a, b, 1, 1, [9], [])
                self.refused(a, b, 1, 1, [], [])
                self.refused(a, b, 64, 64, [], [])

    def test_sides(self):
        self.refused(0, 1, 0, 1, [], [33, 32])
        self.refused(0, 1, 1, 0, [], [33, 32])
        self.refused(0, 1, 65, 1, [9] * 65, [33, 32])
        self.refused(0, 1, 1, 65, [9] * 65, [33, 32])
        self.refused(0, 1, 65, 64, [9] * 4160, [33, 32])
        self.refused(0, 1, 64, 65, [9] * 4160, [])

    def test_sides_with_empty_lists(self):
        for side in (0, 65, 4294967295):
            self.refused(0, 1, side, 1, [], [])
            self.refused(0, 1, 1, side, [], [])
            self.refused(0, 1, side, side, [], [])
            self.refused(4097, 4097, side, side, [], [])

    def test_too_many_places(self):
        self.refused(0, 1, 1, 1, [9], [33, 32] * 65)
        self.refused(0, 1, 1, 1, [9], [33, 32] * 70)
        self.refused(4097, 0, 0, 65, [], [33, 32] * 65)


if __name__ == "__main__":
    unittest.main()
