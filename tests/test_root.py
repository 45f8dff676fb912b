"""Promise 5 as far as it speaks of ap_root. Answers are worked out by hand from the document."""

import unittest

from starlight.heaps import ap_root


class OneNumber(unittest.TestCase):
    def check(self, n, want):
        self.assertEqual(ap_root([n]), [0, want], n)

    def test_least_numbers(self):
        for n, want in ((0, 0), (1, 1), (2, 1), (3, 1), (4, 2), (5, 2), (8, 2), (9, 3), (10, 3), (15, 3), (16, 4)):
            self.check(n, want)

    def test_squares_and_their_neighbours(self):
        for want in (2, 3, 10, 255, 256, 1000, 46340, 65535, 65536, 1518500249, 2 ** 31 - 1, 2 ** 31, 2 ** 32 - 1):
            self.check(want * want - 1, want - 1)
            self.check(want * want, want)
            self.check(want * want + 1, want)
            # The last one ahead of the next square.
            self.check(want * want + 2 * want, want)

    def test_powers_of_two(self):
        for half in range(32):
            self.check(4 ** half, 2 ** half)
        # 2 ** 63 lies between the squares of these.
        self.assertTrue(3037000499 ** 2 < 2 ** 63 < 3037000500 ** 2)
        self.check(2 ** 63, 3037000499)
        self.check(3037000500 ** 2, 3037000500)
        self.check(2 ** 32, 65536)
        self.check(2 ** 32 - 1, 65535)
        # 46340 * 46340 is 2147395600, 46341 * 46341 is 2147488281.
        self.check(2 ** 31, 46340)

    def test_greatest_numbers(self):
        # The greatest square below 2 ** 64 is that of 2 ** 32 - 1.
        self.check(2 ** 64 - 1, 4294967295)
        self.check(2 ** 64 - 2 ** 33 + 1, 4294967295)
        self.check(2 ** 64 - 2 ** 33, 4294967294)

    def test_all_up_to_a_hundred_squared(self):
        want = [root for root in range(100) for step in range(2 * root + 1)]
        for start in range(0, 10000, 1000):
            self.assertEqual(ap_root(list(range(start, start + 1000))), [0] + want[start:start + 1000])


class SeveralNumbers(unittest.TestCase):
    def test_no_number(self):
        self.assertEqual(ap_root([]), [0])

    def test_numbers_in_their_order(self):
        self.assertEqual(ap_root([9, 0, 2 ** 64 - 1, 8, 9, 1]), [0, 3, 0, 4294967295, 2, 3, 1])

    def test_nothing_is_no_wrong_number(self):
        self.assertEqual(ap_root([0]), [0, 0])
        self.assertEqual(ap_root([0, 4]), [0, 0, 2])
        self.assertEqual(ap_root([4, 0]), [0, 2, 0])
        self.assertEqual(ap_root([0] * 1024), [0] + [0] * 1024)

    def test_as_many_as_may_be(self):
        self.assertEqual(ap_root([9] * 1023 + [16]), [0] + [3] * 1023 + [4])
        self.assertEqual(ap_root([2 ** 64 - 1] * 1024), [0] + [4294967295] * 1024)

    def test_lists_stay_and_the_answer_comes_again(self):
        for l in ([9, 0, 2 ** 64 - 1], [], [4] * 1025):
            before = list(l)
            first = ap_root(l)
            self.assertEqual(l, before)
            self.assertEqual(ap_root(l), first)
            self.assertEqual(l, before)


class Refusals(unittest.TestCase):
    def test_too_many(self):
        self.assertEqual(ap_root([4] * 1025), [-2])
        self.assertEqual(ap_root([0] * 1025), [-2])
        self.assertEqual(ap_root([4] * 1030), [-2])
        self.assertEqual(ap_root([2 ** 64 - 1] * 1025), [-2])


if __name__ == "__main__":
    unittest.main()
