"""Promise 5 as far as it speaks of ap_power.

Answers about powers of two are worked out by hand from the document, those of small numbers are held against
n ** 4096. The steps of 3, and the numbers that tell how quotients are rounded, were searched for and reckoned by
machine, with a second telling of the document's words (slow_power in test_calls.py is such a one).
"""

import unittest

from starlight.heaps import ap_power


class OneNumber(unittest.TestCase):
    def check(self, n, want):
        self.assertEqual(ap_power([n]), [0, want], n)

    def test_one(self):
        self.check(1, 0)

    def test_every_power_of_two(self):
        # m is 2 ** 30 all the time: e doubles twelve times.
        for e in range(64):
            self.check(2 ** e, 4096 * e)

    def test_three_step_by_step(self):
        # e and m are 1 and 1610612736 first, then 3 and 1207959552, 6 and 1358954496, 12 and 1719926784,
        # 25 and 1377495072, 50 and 1767177761, 101 and 1454221661, 202 and 1969524323, 405 and 1806312268,
        # 811 and 1519342888, 1623 and 1074933824, 3246 and 1076127147, 6492 and 1078517769.
        self.check(3, 6492)

    def test_doubled_numbers_are_4096_more(self):
        # As long as no bit is lost m is the same.
        for doublings in range(63):
            self.check(3 * 2 ** doublings, 6492 + 4096 * doublings)

    def test_small_numbers(self):
        # 4096 times the logarithms to two: 9510.68, 10588.04, 11498.97, 12984.08, 13606.68, 27213.36, 40819.85.
        for n, want in ((5, 9510), (6, 10588), (7, 11498), (9, 12984), (10, 13606), (100, 27213), (1000, 40819)):
            self.assertTrue(1001 * 2 ** want < 1000 * n ** 4096 < 1000 * 2 ** (want + 1), n)
            self.check(n, want)

    def test_one_less_than_a_power_of_two(self):
        # A 4096th less, 4096 times, is between a half and a quarter: two less than the next one's power.
        self.check(2 ** 12 - 1, 49152 - 2)
        # From 13 on it's more than a half: one less.
        for e in range(13, 65):
            self.check(2 ** e - 1, 4096 * e - 1)

    def test_one_more_than_a_power_of_two(self):
        # A 4096th more, 4096 times, is between 2 and 4: one more than the power below.
        self.check(2 ** 12 + 1, 49152 + 1)
        # From 13 on it's below 2.
        for e in range(13, 64):
            self.check(2 ** e + 1, 4096 * e)

    def test_greatest_power_of_two_about_thirty(self):
        # m is twice n, n, half of n, a quarter of it, rounded down.
        self.check(2 ** 30 - 1, 122879)
        self.check(2 ** 30, 122880)
        self.check(2 ** 30 + 1, 122880)
        self.check(2 ** 31 - 1, 126975)
        self.check(2 ** 31, 126976)
        self.check(2 ** 31 + 1, 126976)
        self.check(2 ** 32 - 1, 131071)
        self.check(2 ** 32, 131072)
        self.check(2 ** 32 + 1, 131072)

    def test_greatest_numbers(self):
        self.check(2 ** 63 - 1, 258047)
        self.check(2 ** 63, 258048)
        self.check(2 ** 63 + 1, 258048)
        self.check(2 ** 64 - 2, 262143)
        self.check(2 ** 64 - 1, 262143)

    def test_q_of_just_two_to_the_31(self):
        # m's square by 2 ** 30 is just 2 ** 31: m is 2 ** 30 from then on, and e is 61 doubled eleven times.
        self.assertEqual(1518500250 ** 2 // 2 ** 30, 2 ** 31)
        self.check(1518500250, 61 * 2048)
        self.check(1518500250 * 2 ** 33, 127 * 2048)

    def test_q_just_below_two_to_the_31(self):
        # One less, q is 2 ** 31 - 3 and stays m: from then on each of the eleven times adds one.
        self.assertEqual(1518500249 ** 2 // 2 ** 30, 2 ** 31 - 3)
        self.check(1518500249, 61 * 2048 - 1)

    def test_quotients_are_rounded_down(self):
        # 4096 times their logarithms are a little above the next whole number, which what is lost takes away.
        for n, want in ((3782294, 89500), (8938199, 94582), (20026002, 99349), (33486362, 102387), (1127941362, 123170)):
            self.assertTrue(2 ** (want + 1) <= n ** 4096, n)
            self.check(n, want)
        # These would be told one more, if q, half of q or the first m were rounded to the nearest.
        for n, want in ((49562449, 104704), (233655003, 113867), (2153670491, 126992), (4316827262, 131101),
                        (9246814207225620093, 258062)):
            self.assertTrue(2 ** want <= n ** 4096 < 2 ** (want + 1), n)
            self.check(n, want)

    def test_bits_that_m_does_not_hold(self):
        # Of a number of 64 bits the 33 lowest are lost.
        self.check(9246814207225620093 // 2 ** 33 * 2 ** 33, 258062)
        self.check(9246814207225620093 // 2 ** 33 * 2 ** 33 + 2 ** 33 - 1, 258062)
        self.check((9246814207225620093 // 2 ** 33 + 1) * 2 ** 33, 258063)


class SeveralNumbers(unittest.TestCase):
    def test_no_number(self):
        self.assertEqual(ap_power([]), [0])

    def test_numbers_in_their_order(self):
        self.assertEqual(ap_power([3, 1, 2 ** 64 - 1, 2, 3, 2 ** 32]), [0, 6492, 0, 262143, 4096, 6492, 131072])

    def test_as_many_as_may_be(self):
        self.assertEqual(ap_power([2] * 1023 + [3]), [0] + [4096] * 1023 + [6492])
        self.assertEqual(ap_power([2 ** 64 - 1] * 1024), [0] + [262143] * 1024)

    def test_lists_stay_and_the_answer_comes_again(self):
        for l in ([3, 1, 2 ** 64 - 1], [3, 0, 1], [], [0] * 1025):
            before = list(l)
            first = ap_power(l)
            self.assertEqual(l, before)
            self.assertEqual(ap_power(l), first)
            self.assertEqual(l, before)


class Refusals(unittest.TestCase):
    def test_nothing_has_no_power(self):
        self.assertEqual(ap_power([0]), [-3])
        self.assertEqual(ap_power([0, 3]), [-3])
        self.assertEqual(ap_power([3, 0]), [-3])
        self.assertEqual(ap_power([3, 5, 0, 7]), [-3])
        self.assertEqual(ap_power([3] * 1023 + [0]), [-3])
        self.assertEqual(ap_power([0] * 1024), [-3])

    def test_too_many(self):
        self.assertEqual(ap_power([3] * 1025), [-2])
        self.assertEqual(ap_power([3] * 1030), [-2])

    def test_too_many_go_ahead_of_nothing(self):
        self.assertEqual(ap_power([0] + [3] * 1024), [-2])
        self.assertEqual(ap_power([3] * 1024 + [0]), [-2])
        self.assertEqual(ap_power([0] * 1030), [-2])


if __name__ == "__main__":
    unittest.main()
