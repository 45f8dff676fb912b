"""What the document says of every call: lists stay as they were, nothing is kept, nothing is printed.

Also a comparison with a slow telling of the same words, point by point and place by place.
"""

import contextlib
import fractions
import io
import math
import unittest

from starlight import heaps


class Unchanging(list):
    """A list that fails the test if it's changed, even for a while."""

    def refuse(self, *args, **kwargs):
        raise AssertionError("a list that was handed in was changed")

    append = clear = extend = insert = pop = remove = reverse = sort = refuse
    __setitem__ = __delitem__ = __iadd__ = __imul__ = refuse


def numbers_below(limit, many, seed):
    """Numbers that look mixed but are the same each time."""
    found = []
    for _ in range(many):
        seed = (seed * 1103515245 + 12345) % 2 ** 31
        found.append((seed >> 8) % limit)
    return found


def slow_aperture(r, w, h, f, xy):
    points = []
    for place, number in enumerate(f):
        for k in range(16):
            points.append((place % w * 64 + (8, 24, 40, 56)[k % 4], place // w * 64 + (8, 24, 40, 56)[k // 4], number))
    answer = [0]
    for x, y in zip(xy[::2], xy[1::2]):
        within = [number for px, py, number in points if (px - x) * (px - x) + (py - y) * (py - y) <= r * r]
        answer += [sum(within), len(within)]
    return answer


def slow_ring(a, b, w, h, f, xy):
    answer = [0]
    for x, y in zip(xy[::2], xy[1::2]):
        squares = [(k % w * 64 + 32 - x) ** 2 + (k // w * 64 + 32 - y) ** 2 for k in range(w * h)]
        inside = sorted(f[k] for k in range(w * h) if a * a < squares[k] <= b * b)
        many = len(inside)
        while len(inside) > 2:
            inside = inside[1:-1]
        answer += [many, inside[0] if inside else 0]
    return answer


def slow_own(r, a, b, w, h, f, xy):
    apertures = slow_aperture(r, w, h, f, xy)[1:]
    skies = slow_ring(a, b, w, h, f, xy)[2::2]
    answer = [0]
    for k, sky in enumerate(skies):
        left = apertures[2 * k] - sky * apertures[2 * k + 1]
        answer.append(left if left >= 0 else left + 18446744073709551616)
    return answer


def nearest(over, under):
    """The nearest whole number, of two as near the greater."""
    return math.floor(fractions.Fraction(over, under) + fractions.Fraction(1, 2))


def slow_weights(level, r, w, h, f, x, y):
    """For every place of the frame its middle across and down and its weight, be it 0."""
    found = []
    for k, number in enumerate(f):
        px = 64 * (k % w) + 32
        py = 64 * (k // w) + 32
        near = (px - x) * (px - x) + (py - y) * (py - y) <= r * r
        found.append((px, py, max(number - level, 0) if near else 0))
    return found


def slow_middle(level, r, m, w, h, f, xy):
    answer = [0]
    for x, y in zip(xy[::2], xy[1::2]):
        # All of the m times, though it stays: where it stays it stays for good.
        for _ in range(m):
            found = slow_weights(level, r, w, h, f, x, y)
            weights = sum(weight for px, py, weight in found)
            if weights == 0:
                x = y = 2 ** 32 - 1
                break
            x = nearest(sum(weight * px for px, py, weight in found), weights)
            y = nearest(sum(weight * py for px, py, weight in found), weights)
        answer += [x, y]
    return answer


def slow_moments(level, r, w, h, f, xy):
    answer = [0]
    for x, y in zip(xy[::2], xy[1::2]):
        found = slow_weights(level, r, w, h, f, x, y)
        weights = sum(weight for px, py, weight in found)
        if weights == 0:
            answer += [2 ** 32 - 1] * 3
            continue
        for over in (sum(weight * (px - x) * (px - x) for px, py, weight in found),
                     sum(weight * (py - y) * (py - y) for px, py, weight in found),
                     sum(weight * (px - x) * (py - y) for px, py, weight in found)):
            width = nearest(over, weights)
            answer.append(width if width >= 0 else width + 4294967296)
    return answer


def slow_shape(l):
    answer = [0]
    for a, b, word in zip(l[::3], l[1::3], l[2::3]):
        c = word if word < 2147483648 else word - 4294967296
        apart = math.isqrt((a - b) * (a - b) + 4 * c * c)
        short = a + b - apart
        answer += [a + b + apart, short if short >= 0 else short + 4294967296]
        if -abs(a - b) < 2 * c < abs(a - b):
            answer.append(0 if a > b else 2)
        else:
            answer.append(3 if c < 0 else 1)
    return answer


def slow_radius(most, k, w, h, f, xy):
    answer = [0]
    for x, y in zip(xy[::2], xy[1::2]):
        whole = slow_aperture(most, w, h, f, [x, y])[1]
        r = 0
        while 256 * slow_aperture(r, w, h, f, [x, y])[1] < k * whole:
            r += 1
        answer.append(r)
    return answer


def slow_power(n):
    """The document's words, one by one, with quotients rounded down as such."""
    e = max(k for k in range(64) if 2 ** k <= n)
    m = n * 2 ** (30 - e) if e <= 30 else math.floor(fractions.Fraction(n, 2 ** (e - 30)))
    for _ in range(12):
        q = math.floor(fractions.Fraction(m * m, 2 ** 30))
        if q >= 2 ** 31:
            e, m = 2 * e + 1, math.floor(fractions.Fraction(q, 2))
        else:
            e, m = 2 * e, q
    return e


def slow_magnitude(a, b):
    answer = [0]
    for one, other in zip(a, b):
        apart = nearest((slow_power(other) - slow_power(one)) * 7526, 40960)
        answer.append(apart if apart >= 0 else apart + 4294967296)
    return answer


def slow_powers(l):
    return [0] + [slow_power(n) for n in l]


def slow_roots(l):
    return [0] + [math.isqrt(n) for n in l]


SIZES = ((1, 1), (1, 7), (7, 1), (2, 3), (5, 4), (9, 9), (64, 1), (1, 64), (13, 2))


class SlowTelling(unittest.TestCase):
    def frames(self):
        for seed, (w, h) in enumerate(SIZES):
            f = numbers_below(65536, w * h, seed + 1)
            across = numbers_below(64 * w + 100, 12, seed + 50)
            down = numbers_below(64 * h + 100, 12, seed + 90)
            yield w, h, f, [at for place in zip(across, down) for at in place]

    def test_apertures(self):
        for w, h, f, xy in self.frames():
            for r in (0, 1, 8, 33, 64, 100, 257, 1000, 4096):
                self.assertEqual(heaps.ap_aperture(r, w, h, f, xy), slow_aperture(r, w, h, f, xy), (r, w, h))

    def test_rings(self):
        for w, h, f, xy in self.frames():
            for a, b in ((0, 1), (0, 64), (33, 100), (64, 257), (100, 1000), (0, 4096), (1000, 4096), (64, 33)):
                self.assertEqual(heaps.ap_ring(a, b, w, h, f, xy), slow_ring(a, b, w, h, f, xy), (a, b, w, h))

    def test_owns(self):
        for w, h, f, xy in self.frames():
            for r, a, b in ((0, 0, 64), (8, 33, 100), (64, 64, 257), (100, 100, 1000), (257, 0, 4096), (4096, 64, 33)):
                self.assertEqual(heaps.ap_own(r, a, b, w, h, f, xy), slow_own(r, a, b, w, h, f, xy), (r, a, b, w, h))

    def test_middles(self):
        for w, h, f, xy in self.frames():
            for level in (0, 30000, 65000):
                for r, m in ((33, 1), (33, 32), (64, 2), (100, 3), (150, 32), (257, 5), (4096, 1), (4096, 0)):
                    want = slow_middle(level, r, m, w, h, f, xy)
                    self.assertEqual(heaps.ap_middle(level, r, m, w, h, f, xy), want, (level, r, m, w, h))

    def test_middles_among_small_numbers(self):
        # Weights alike and few: halves between two whole numbers are met often.
        for w, h, f, xy in self.frames():
            few = [number % 4 for number in f]
            for r, m in ((50, 1), (70, 32), (100, 1), (200, 3), (4096, 1)):
                self.assertEqual(heaps.ap_middle(1, r, m, w, h, few, xy), slow_middle(1, r, m, w, h, few, xy), (r, m, w))

    def test_moments(self):
        for w, h, f, xy in self.frames():
            few = [number % 4 for number in f]
            for r in (0, 33, 64, 100, 257, 1000, 4096):
                for level in (0, 30000, 65000):
                    want = slow_moments(level, r, w, h, f, xy)
                    self.assertEqual(heaps.ap_moments(level, r, w, h, f, xy), want, (level, r, w, h))
                self.assertEqual(heaps.ap_moments(1, r, w, h, few, xy), slow_moments(1, r, w, h, few, xy), (r, w, h))

    def test_shapes_of_small_widths(self):
        for a in range(12):
            for b in range(12):
                l = [word for c in range(-9, 10) for word in (a, b, c % 2 ** 32)]
                self.assertEqual(heaps.ap_shape(l), slow_shape(l), (a, b))

    def test_shapes_of_mixed_widths(self):
        for limit in (100, 5000, 2 ** 20, 2 ** 25 + 1):
            sides = numbers_below(limit, 2000, 5)
            thirds = [(c if k % 2 else -c) % 2 ** 32 for k, c in enumerate(numbers_below(limit, 1000, 6))]
            l = [word for k in range(1000) for word in (sides[2 * k], sides[2 * k + 1], thirds[k])]
            self.assertEqual(heaps.ap_shape(l), slow_shape(l), limit)

    def test_radii(self):
        for w, h, f, xy in self.frames():
            dim = [number if number % 5 == 0 else 0 for number in f]
            for most, k in ((0, 256), (20, 200), (50, 128), (150, 256)):
                want = slow_radius(most, k, w, h, f, xy[:8])
                self.assertEqual(heaps.ap_radius(most, k, w, h, f, xy[:8]), want, (most, k, w, h))
                want = slow_radius(most, k, w, h, dim, xy[8:12])
                self.assertEqual(heaps.ap_radius(most, k, w, h, dim, xy[8:12]), want, (most, k, w, h))

    def test_magnitudes_of_small_numbers(self):
        for one in range(1, 40):
            a = [one] * 300
            b = list(range(1, 301))
            self.assertEqual(heaps.ap_magnitude(a, b), slow_magnitude(a, b), one)
            self.assertEqual(heaps.ap_magnitude(b, a), slow_magnitude(b, a), one)

    def test_magnitudes_of_mixed_numbers(self):
        for limit in (100, 2 ** 15, 2 ** 23):
            # Each with a rest of its own, up to the greatest word.
            a = [512 * n + n % 509 + 1 for n in numbers_below(limit, 500, 7)]
            b = [512 * n + n % 503 + 1 for n in numbers_below(limit, 500, 8)]
            self.assertEqual(heaps.ap_magnitude(a, b), slow_magnitude(a, b), limit)

    def mixed_numbers(self):
        """Numbers of 1 to 64 bits, some hundred each."""
        high = numbers_below(2 ** 23, 300, 9)
        middle = numbers_below(2 ** 23, 300, 10)
        low = numbers_below(2 ** 18, 300, 11)
        whole = [2 ** 63 + one * 2 ** 40 + other * 2 ** 17 + last // 2 for one, other, last in zip(high, middle, low)]
        for bits in range(1, 65):
            yield [n >> (64 - bits) for n in whole]

    def test_powers(self):
        for start in range(1, 3001, 1000):
            l = list(range(start, start + 1000))
            self.assertEqual(heaps.ap_power(l), slow_powers(l), start)
        for l in self.mixed_numbers():
            self.assertEqual(heaps.ap_power(l), slow_powers(l), l[0])

    def test_powers_are_logarithms(self):
        # 4096 times the logarithm to two, rounded down; what is lost in twelve times may make it one less.
        for l in self.mixed_numbers():
            for n, told in zip(l[:20], heaps.ap_power(l[:20])[1:]):
                self.assertIn((n ** 4096).bit_length() - 1 - told, (0, 1), n)

    def test_roots(self):
        for l in self.mixed_numbers():
            self.assertEqual(heaps.ap_root(l), slow_roots(l), l[0])
            near = [max(0, math.isqrt(n) ** 2 + beside) for n in l for beside in (-1, 0, 1)]
            self.assertEqual(heaps.ap_root(near), slow_roots(near), l[0])


def all_calls(f, xy, l):
    """Every call, as pairs of a name and what makes the call with these lists."""
    bad = type(l)(l + [0, 0, 2 ** 31])
    ones = type(l)([1, 3, 5793, 2 ** 32 - 1])
    others = type(l)([1024, 2, 32, 2 ** 31 + 1])
    noughts = type(l)([7, 5, 0, 9])
    many = type(l)([4] * 1025)
    return [
        ("ap_aperture", lambda: heaps.ap_aperture(70, 3, 2, f, xy)),
        ("ap_aperture refused", lambda: heaps.ap_aperture(4097, 3, 2, f, xy)),
        ("ap_ring", lambda: heaps.ap_ring(10, 100, 3, 2, f, xy)),
        ("ap_ring refused", lambda: heaps.ap_ring(10, 4097, 3, 2, f, xy)),
        ("ap_own", lambda: heaps.ap_own(40, 10, 100, 3, 2, f, xy)),
        ("ap_own refused", lambda: heaps.ap_own(40, 10, 4097, 3, 2, f, xy)),
        ("ap_middle", lambda: heaps.ap_middle(25, 100, 32, 3, 2, f, xy)),
        ("ap_middle at no time", lambda: heaps.ap_middle(25, 100, 0, 3, 2, f, xy)),
        ("ap_middle refused", lambda: heaps.ap_middle(25, 100, 33, 3, 2, f, xy)),
        ("ap_moments", lambda: heaps.ap_moments(25, 100, 3, 2, f, xy)),
        ("ap_moments refused", lambda: heaps.ap_moments(65536, 100, 3, 2, f, xy)),
        ("ap_shape", lambda: heaps.ap_shape(l)),
        ("ap_shape refused", lambda: heaps.ap_shape(bad)),
        ("ap_radius", lambda: heaps.ap_radius(300, 128, 3, 2, f, xy)),
        ("ap_radius refused", lambda: heaps.ap_radius(300, 257, 3, 2, f, xy)),
        ("ap_magnitude", lambda: heaps.ap_magnitude(ones, others)),
        ("ap_magnitude refused", lambda: heaps.ap_magnitude(ones, noughts)),
        ("ap_power", lambda: heaps.ap_power(ones)),
        ("ap_power refused", lambda: heaps.ap_power(noughts)),
        ("ap_root", lambda: heaps.ap_root(noughts)),
        ("ap_root refused", lambda: heaps.ap_root(many)),
    ]


class EveryCall(unittest.TestCase):
    def setUp(self):
        self.f = [60, 10, 50, 20, 40, 30]
        self.xy = [100, 70, 3, 5, 65535, 0]
        self.l = [900, 400, 120, 7, 7, 2 ** 32 - 9, 0, 33554432, 33554432]

    def test_lists_stay_as_they_were(self):
        f = list(self.f)
        xy = list(self.xy)
        l = list(self.l)
        for name, call in all_calls(f, xy, l):
            call()
            self.assertEqual((f, xy, l), (self.f, self.xy, self.l), name)

    def test_lists_are_not_changed_for_a_while(self):
        for name, call in all_calls(Unchanging(self.f), Unchanging(self.xy), Unchanging(self.l)):
            call()

    def test_same_answer_a_second_time(self):
        calls = all_calls(self.f, self.xy, self.l)
        first = [call() for name, call in calls]
        kept = [list(answer) for answer in first]
        # What a caller does to an answer is not seen in the next one.
        for answer in first:
            answer.append(1)
        self.assertEqual([call() for name, call in calls], kept)
        self.assertEqual([call() for name, call in reversed(calls)], kept[::-1])

    def test_answers_are_lists_of_whole_numbers(self):
        for name, call in all_calls(self.f, self.xy, self.l):
            answer = call()
            self.assertIs(type(answer), list, name)
            self.assertEqual({type(number) for number in answer}, {int}, name)

    def test_nothing_is_printed(self):
        out = io.StringIO()
        err = io.StringIO()
        with contextlib.redirect_stdout(out), contextlib.redirect_stderr(err):
            for name, call in all_calls(self.f, self.xy, self.l):
                call()
        self.assertEqual((out.getvalue(), err.getvalue()), ("", ""))


if __name__ == "__main__":
    unittest.main()
