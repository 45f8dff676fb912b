"""Promise 4, ap_shape. Answers are worked out by hand from the document."""

import unittest

from starlight.heaps import ap_shape

BELOW = 2 ** 32
MOST = 2 ** 25

ACROSS = 0
RIGHT_BELOW = 1
DOWN = 2
LEFT_BELOW = 3


class OneThing(unittest.TestCase):
    def check(self, a, b, c, long_axis, short_axis, way):
        """All told with their signs."""
        self.assertEqual(ap_shape([a, b, c % BELOW]), [0, long_axis, short_axis % BELOW, way], (a, b, c))

    def test_nothing(self):
        self.check(0, 0, 0, 0, 0, RIGHT_BELOW)

    def test_across_and_down(self):
        self.check(5, 3, 0, 10, 6, ACROSS)
        self.check(3, 5, 0, 10, 6, DOWN)
        self.check(1, 0, 0, 2, 0, ACROSS)
        self.check(0, 1, 0, 2, 0, DOWN)

    def test_twice_c_below_what_they_are_apart(self):
        # The root of 9 + 4 is rounded down to 3.
        self.check(6, 3, 1, 12, 6, ACROSS)
        self.check(6, 3, -1, 12, 6, ACROSS)
        self.check(3, 6, 1, 12, 6, DOWN)
        self.check(3, 6, -1, 12, 6, DOWN)

    def test_twice_c_just_what_they_are_apart(self):
        # The root of 4 + 4 is rounded down to 2.
        self.check(5, 3, 1, 10, 6, RIGHT_BELOW)
        self.check(5, 3, -1, 10, 6, LEFT_BELOW)
        self.check(3, 5, 1, 10, 6, RIGHT_BELOW)
        self.check(3, 5, -1, 10, 6, LEFT_BELOW)

    def test_twice_c_above_what_they_are_apart(self):
        # The root of 9 + 16 is 5.
        self.check(6, 3, 2, 14, 4, RIGHT_BELOW)
        self.check(6, 3, -2, 14, 4, LEFT_BELOW)
        self.check(3, 6, 2, 14, 4, RIGHT_BELOW)
        self.check(3, 6, -2, 14, 4, LEFT_BELOW)

    def test_alike(self):
        self.check(7, 7, 0, 14, 14, RIGHT_BELOW)
        self.check(7, 7, 1, 16, 12, RIGHT_BELOW)
        self.check(7, 7, -1, 16, 12, LEFT_BELOW)
        self.check(7, 7, 3, 20, 8, RIGHT_BELOW)
        self.check(7, 7, -3, 20, 8, LEFT_BELOW)

    def test_roots_just_below_and_just_above_whole_ones(self):
        # Roots of 80, of 100 and of 101 (1 + 100), and of 5.
        self.check(8, 0, 2, 16, 0, ACROSS)
        self.check(6, 0, 4, 16, -4, RIGHT_BELOW)
        self.check(11, 10, 5, 31, 11, RIGHT_BELOW)
        self.check(2, 1, 1, 5, 1, RIGHT_BELOW)

    def test_short_axis_of_nothing(self):
        self.check(7, 7, 7, 28, 0, RIGHT_BELOW)
        self.check(7, 7, -7, 28, 0, LEFT_BELOW)
        self.check(9, 0, 0, 18, 0, ACROSS)
        # The root of 9 + 16 is just a + b.
        self.check(4, 1, 2, 10, 0, RIGHT_BELOW)

    def test_short_axis_below_nothing(self):
        self.check(1, 1, 2, 6, -2, RIGHT_BELOW)
        self.check(0, 0, 1, 2, -2, RIGHT_BELOW)
        self.check(0, 0, -1, 2, -2, LEFT_BELOW)
        # The root of 1 + 4 * 4, 4, and of 9 + 4 * 4, 5.
        self.check(1, 2, 2, 7, -1, RIGHT_BELOW)
        self.check(3, 0, -2, 8, -2, LEFT_BELOW)

    def test_greatest_widths(self):
        self.check(MOST, 0, 0, 2 * MOST, 0, ACROSS)
        self.check(0, MOST, 0, 2 * MOST, 0, DOWN)
        self.check(MOST, MOST, 0, 2 * MOST, 2 * MOST, RIGHT_BELOW)
        self.check(MOST, MOST, MOST, 4 * MOST, 0, RIGHT_BELOW)
        self.check(MOST, MOST, -MOST, 4 * MOST, 0, LEFT_BELOW)
        self.check(0, 0, MOST, 2 * MOST, -2 * MOST, RIGHT_BELOW)
        self.check(0, 0, -MOST, 2 * MOST, -2 * MOST, LEFT_BELOW)

    def test_greatest_root_that_is_not_whole(self):
        # 5 * 2 ** 50 lies between these squares.
        root = 75029990
        self.assertTrue(root * root < 5 * 2 ** 50 < (root + 1) * (root + 1))
        self.check(MOST, 0, MOST, MOST + root, MOST - root, RIGHT_BELOW)
        self.check(0, MOST, -MOST, MOST + root, MOST - root, LEFT_BELOW)

    def test_large_widths_a_little_apart(self):
        # Roots of (2 ** 25 - 1) ** 2 + 4, of 13 twice, and of 5, all rounded down.
        self.check(MOST, 1, 1, 2 * MOST, 2, ACROSS)
        self.check(MOST, MOST - 3, 1, 2 * MOST, 2 * MOST - 6, ACROSS)
        self.check(MOST - 3, MOST, -1, 2 * MOST, 2 * MOST - 6, DOWN)
        self.check(MOST, MOST - 1, 1, 2 * MOST + 1, 2 * MOST - 3, RIGHT_BELOW)


class SeveralThings(unittest.TestCase):
    def test_no_thing(self):
        self.assertEqual(ap_shape([]), [0])

    def test_things_in_their_order(self):
        l = [5, 3, 0, 3, 5, 0, 6, 3, 2, 6, 3, BELOW - 2, 0, 0, 1]
        self.assertEqual(ap_shape(l), [0, 10, 6, 0, 10, 6, 2, 14, 4, 1, 14, 4, 3, 2, BELOW - 2, 1])

    def test_as_many_as_may_be(self):
        self.assertEqual(ap_shape([5, 3, 0] * 1023 + [3, 5, 0]), [0] + [10, 6, 0] * 1023 + [10, 6, 2])


class Refusals(unittest.TestCase):
    def test_too_many_things(self):
        self.assertEqual(ap_shape([5, 3, 0] * 1025), [-2])
        self.assertEqual(ap_shape([5, 3, 0] * 1030), [-2])

    def test_too_many_things_go_ahead_of_bad_widths(self):
        self.assertEqual(ap_shape([MOST + 1, 3, 0] + [5, 3, 0] * 1024), [-2])
        self.assertEqual(ap_shape([5, 3, 0] * 1024 + [5, 3, MOST + 1]), [-2])
        self.assertEqual(ap_shape([BELOW - 1] * 3075), [-2])

    def refused_anywhere(self, thing):
        self.assertEqual(ap_shape(thing), [-3], thing)
        self.assertEqual(ap_shape(thing + [5, 3, 0]), [-3], thing)
        self.assertEqual(ap_shape([5, 3, 0, 3, 5, 0] + thing), [-3], thing)
        self.assertEqual(ap_shape([5, 3, 0] * 1023 + thing), [-3], thing)

    def test_a_and_b(self):
        # Just above, the greatest word, the least number below 0, and one below 0.
        for bad in (MOST + 1, 2 ** 31 - 1, 2 ** 31, BELOW - MOST, BELOW - 1):
            self.refused_anywhere([bad, 0, 0])
            self.refused_anywhere([0, bad, 0])
            self.refused_anywhere([bad, bad, 0])

    def test_c(self):
        for bad in (MOST + 1, 2 ** 31 - 1, 2 ** 31, BELOW - MOST - 1):
            self.refused_anywhere([0, 0, bad])
            self.refused_anywhere([MOST, MOST, bad])


if __name__ == "__main__":
    unittest.main()
