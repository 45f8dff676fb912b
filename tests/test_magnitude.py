"""Promise 5 as far as it speaks of ap_magnitude. Answers are worked out by hand from the document and the powers.

Where the power of a small number that's no power of two is told here, test_powers_told_here looks at it. The pairs that
come just to a half, or beside it, and the numbers that tell how quotients are rounded within a power were searched for
by machine.
"""

import unittest

from starlight.heaps import ap_magnitude

BELOW = 2 ** 32
MOST = 4294967295

POWERS = {3: 6492, 181: 30719, 2049: 45058, 2837: 46981, 2897: 47105, 5793: 51200, 5915: 51323, 8197: 53251}


class OnePair(unittest.TestCase):
    def check(self, a, b, want):
        """What's wanted is told with its sign."""
        self.assertEqual(ap_magnitude([a], [b]), [0, want % BELOW], (a, b))

    def test_powers_told_here(self):
        # A power is 4096 times the logarithm to two, rounded down. What 30 bits lose in twelve times is less than a
        # 1000th of n ** 4096, and none of these lies so near above a whole number.
        for n, power in POWERS.items():
            self.assertTrue(1001 * 2 ** power < 1000 * n ** 4096 < 1000 * 2 ** (power + 1), n)

    def test_alike(self):
        for n in (1, 2, 3, 1000, 2 ** 31, MOST):
            self.check(n, n, 0)

    def test_alike_by_power_alone(self):
        # What tells 2 ** 31 + 1 from 2 ** 31 is lost as m is taken.
        self.check(2 ** 31, 2 ** 31 + 1, 0)
        self.check(2 ** 31 + 1, 2 ** 31, 0)

    def test_doublings(self):
        # 4096 * 7526 by 40960 is 752.6, and so on.
        self.check(1, 2, 753)
        self.check(2, 1, -753)
        self.check(1, 4, 1505)
        self.check(4, 1, -1505)
        self.check(1, 8, 2258)
        self.check(8, 1, -2258)
        self.check(1, 16, 3010)
        self.check(16, 1, -3010)
        self.check(1, 32, 3763)
        self.check(32, 1, -3763)
        self.check(1024, 2048, 753)
        self.check(2 ** 31, 2 ** 30, -753)

    def test_far_apart(self):
        # 31 * 752.6 is 23330.6.
        self.check(1, 2 ** 31, 23331)
        self.check(2 ** 31, 1, -23331)
        # The greatest word's power is 131071: 131071 * 7526 by 40960 is 24083.02.
        self.check(1, MOST, 24083)
        self.check(MOST, 1, -24083)

    def test_three(self):
        # 6492 * 7526 by 40960 is 1192.84; 6492 less 4096 is 2396: 440.24.
        self.check(1, 3, 1193)
        self.check(3, 1, -1193)
        self.check(2, 3, 440)
        self.check(3, 2, -440)
        self.check(3, 6, 753)
        # 8192 less 6492 is 1700: 312.36.
        self.check(3, 4, 312)
        self.check(4, 3, -312)

    def test_one_less_and_one_more_than_powers_of_two(self):
        # Powers of 131071 and 126975, each one less than the next power of two's: 1 * 7526 by 40960 is 0.18.
        self.check(2 ** 31 - 1, 2 ** 31, 0)
        self.check(2 ** 31, 2 ** 31 - 1, 0)
        # 131071 less 126976 is 4095: 752.42.
        self.check(2 ** 31, MOST, 752)
        self.check(MOST, 2 ** 31, -752)
        self.check(2 ** 31 + 1, MOST, 752)
        # 131071 less 126975 is 4096 again.
        self.check(2 ** 31 - 1, MOST, 753)
        # 45058 less 45056 is 2: 0.37; 53251 less 53248 is 3: 0.55.
        self.check(2048, 2049, 0)
        self.check(2049, 2048, 0)
        self.check(8192, 8197, 1)
        self.check(8197, 8192, -1)

    def test_just_between_two_whole_numbers(self):
        # 51200 less 40960 is 10240: 1881.5.
        self.check(1024, 5793, 1882)
        self.check(5793, 1024, -1881)
        # 51200 less 20480 is 30720: 5644.5.
        self.check(32, 5793, 5645)
        self.check(5793, 32, -5644)
        # 51200 by itself: 9407.5.
        self.check(1, 5793, 9408)
        self.check(5793, 1, -9407)

    def test_beside_what_lies_between(self):
        # 30719 less 20480 is 10239: 1881.32; 47105 less 36864 is 10241: 1881.68.
        self.check(32, 181, 1881)
        self.check(181, 32, -1881)
        self.check(512, 2897, 1882)
        self.check(2897, 512, -1882)

    def test_as_near_to_the_half_as_may_be(self):
        # 46981 less 32768 is 14213: 14213 * 3763 is 2611 * 20480 + 10239, one less than a half.
        self.assertEqual(14213 * 3763, 2611 * 20480 + 10239)
        self.check(256, 2837, 2611)
        self.check(2837, 256, -2611)
        # 51323 less 45056 is 6267: 6267 * 3763 is 1151 * 20480 + 10241, one more.
        self.assertEqual(6267 * 3763, 1151 * 20480 + 10241)
        self.check(2048, 5915, 1152)
        self.check(5915, 2048, -1152)

    def test_q_of_just_two_to_the_31(self):
        # 1518500250 is m itself; its square by 2 ** 30 is just 2 ** 31, so that m is 2 ** 30 from then on: the power
        # is 61 * 2048, which is 112640 more than that of 8, and 112640 * 7526 by 40960 is 20696.5.
        self.assertEqual(1518500250 ** 2 // 2 ** 30, 2 ** 31)
        self.check(8, 1518500250, 20697)
        self.check(1518500250, 8, -20696)

    def test_quotients_within_a_power_are_rounded_down(self):
        # 4096 times the logarithm to two is a little above 99350, but in twelve times 99349 is left: 18254.41.
        self.assertTrue(2 ** 99350 < 20026002 ** 4096 < 2 ** 99351)
        self.check(1, 20026002, 18254)
        # Likewise 101950 is left of 101951, where q by 2 loses it: 18732.32.
        self.assertTrue(2 ** 101951 < 31099345 ** 4096 < 2 ** 101952)
        self.check(1, 31099345, 18732)
        # The first m is 2148937775 by 2; its power is 126979, and 126980 if the half were rounded up.
        # Less 12288 these are 114691 and 114692: 21073.35 and 21073.53.
        self.check(8, 2148937775, 21073)
        self.check(8, 2148937776, 21074)


class SeveralPairs(unittest.TestCase):
    def test_no_pair(self):
        self.assertEqual(ap_magnitude([], []), [0])

    def test_pairs_in_their_order(self):
        a = [1, 2, 1024, 5793, 7, MOST]
        b = [2, 1, 5793, 1024, 7, 1]
        self.assertEqual(ap_magnitude(a, b), [0, 753, BELOW - 753, 1882, BELOW - 1881, 0, BELOW - 24083])

    def test_as_many_as_may_be(self):
        self.assertEqual(ap_magnitude([1] * 1024, [2] * 1023 + [4]), [0] + [753] * 1023 + [1505])

    def test_lists_stay_and_the_answer_comes_again(self):
        for a, b in (([1, 3, 5793], [1024, 2, 32]), ([5, 0, 6], [7, 8, 9]), ([0] * 1025, [1] * 1025)):
            a_before = list(a)
            b_before = list(b)
            first = ap_magnitude(a, b)
            self.assertEqual((a, b), (a_before, b_before))
            self.assertEqual(ap_magnitude(a, b), first)
            self.assertEqual((a, b), (a_before, b_before))


class Refusals(unittest.TestCase):
    def test_nothing_has_no_power(self):
        for a, b in (([0], [1]), ([1], [0]), ([0], [0])):
            self.assertEqual(ap_magnitude(a, b), [-3])
            self.assertEqual(ap_magnitude(a + [5, 6], b + [7, 8]), [-3])
            self.assertEqual(ap_magnitude([5] + a + [6], [7] + b + [8]), [-3])
            self.assertEqual(ap_magnitude([5, 6] + a, [7, 8] + b), [-3])
            self.assertEqual(ap_magnitude([5] * 1023 + a, [7] * 1023 + b), [-3])

    def test_too_many(self):
        self.assertEqual(ap_magnitude([1] * 1025, [2] * 1025), [-2])
        self.assertEqual(ap_magnitude([1] * 1030, [2] * 1030), [-2])

    def test_too_many_go_ahead_of_nothing(self):
        self.assertEqual(ap_magnitude([0] + [1] * 1024, [2] * 1025), [-2])
        self.assertEqual(ap_magnitude([1] * 1025, [0] + [2] * 1024), [-2])
        self.assertEqual(ap_magnitude([1] * 1024 + [0], [2] * 1025), [-2])
        self.assertEqual(ap_magnitude([1] * 1025, [2] * 1024 + [0]), [-2])
        self.assertEqual(ap_magnitude([0] * 1030, [0] * 1030), [-2])


if __name__ == "__main__":
    unittest.main()
