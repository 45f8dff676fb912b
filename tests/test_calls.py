"""What the document says of every call: lists stay as they were, nothing is kept, nothing is printed.

Also a comparison with a slow telling of the same words, point by point and place by place.
"""

import contextlib
import io
import unittest

from starlight import heaps


class Unchanging(list):
    """A list that fails the test if it's changed, even for a while."""

    def refuse(self, *args, **kwargs):
        raise AssertionError("a list that was handed in was changed")

    append = clear = extend = insert = pop = remove = reverse = sort = refuse
    __setitem__ = __delitem__ = __iadd__ = __imul__ = refuse


def numbers_below(limit, many, seed):
    """Numbers that look mixed but are the same each time."""
    found = []
    for _ in range(many):
        seed = (seed * 1103515245 + 12345) % 2 ** 31
        found.append((seed >> 8) % limit)
    return found


def slow_aperture(r, w, h, f, xy):
    points = []
    for place, number in enumerate(f):
        for k in range(16):
            points.append((place % w * 64 + (8, 24, 40, 56)[k % 4], place // w * 64 + (8, 24, 40, 56)[k // 4], number))
    answer = [0]
    for x, y in zip(xy[::2], xy[1::2]):
        within = [number for px, py, number in points if (px - x) * (px - x) + (py - y) * (py - y) <= r * r]
        answer += [sum(within), len(within)]
    return answer


def slow_ring(a, b, w, h, f, xy):
    answer = [0]
    for x, y in zip(xy[::2], xy[1::2]):
        squares = [(k % w * 64 + 32 - x) ** 2 + (k // w * 64 + 32 - y) ** 2 for k in range(w * h)]
        inside = sorted(f[k] for k in range(w * h) if a * a < squares[k] <= b * b)
        many = len(inside)
        while len(inside) > 2:
            inside = inside[1:-1]
        answer += [many, inside[0] if inside else 0]
    return answer


SIZES = ((1, 1), (1, 7), (7, 1), (2, 3), (5, 4), (9, 9), (64, 1), (1, 64), (13, 2))


class SlowTelling(unittest.TestCase):
    def frames(self):
        for seed, (w, h) in enumerate(SIZES):
            f = numbers_below(65536, w * h, seed + 1)
            across = numbers_below(64 * w + 100, 12, seed + 50)
            down = numbers_below(64 * h + 100, 12, seed + 90)
            yield w, h, f, [at for place in zip(across, down) for at in place]

    def test_apertures(self):
        for w, h, f, xy in self.frames():
            for r in (0, 1, 8, 33, 64, 100, 257, 1000, 4096):
                self.assertEqual(heaps.ap_aperture(r, w, h, f, xy), slow_aperture(r, w, h, f, xy), (r, w, h))

    def test_rings(self):
        for w, h, f, xy in self.frames():
            for a, b in ((0, 1), (0, 64), (33, 100), (64, 257), (100, 1000), (0, 4096), (1000, 4096), (64, 33)):
                self.assertEqual(heaps.ap_ring(a, b, w, h, f, xy), slow_ring(a, b, w, h, f, xy), (a, b, w, h))


def all_calls(f, xy):
    """Every call that has landed, as pairs of a name and what makes the call with these lists."""
    return [
        ("ap_aperture", lambda: heaps.ap_aperture(70, 3, 2, f, xy)),
        ("ap_aperture refused", lambda: heaps.ap_aperture(4097, 3, 2, f, xy)),
        ("ap_ring", lambda: heaps.ap_ring(10, 100, 3, 2, f, xy)),
        ("ap_ring refused", lambda: heaps.ap_ring(10, 4097, 3, 2, f, xy)),
    ]


class EveryCall(unittest.TestCase):
    def setUp(self):
        self.f = [60, 10, 50, 20, 40, 30]
        self.xy = [100, 70, 3, 5, 65535, 0]

    def test_lists_stay_as_they_were(self):
        f = list(self.f)
        xy = list(self.xy)
        for name, call in all_calls(f, xy):
            call()
            self.assertEqual((f, xy), (self.f, self.xy), name)

    def test_lists_are_not_changed_for_a_while(self):
        for name, call in all_calls(Unchanging(self.f), Unchanging(self.xy)):
            call()

    def test_same_answer_a_second_time(self):
        calls = all_calls(self.f, self.xy)
        first = [call() for name, call in calls]
        kept = [list(answer) for answer in first]
        # What a caller does to an answer is not seen in the next one.
        for answer in first:
            answer.append(1)
        self.assertEqual([call() for name, call in calls], kept)
        self.assertEqual([call() for name, call in reversed(calls)], kept[::-1])

    def test_answers_are_lists_of_whole_numbers(self):
        for name, call in all_calls(self.f, self.xy):
            answer = call()
            self.assertIs(type(answer), list, name)
            self.assertEqual({type(number) for number in answer}, {int}, name)

    def test_nothing_is_printed(self):
        out = io.StringIO()
        err = io.StringIO()
        with contextlib.redirect_stdout(out), contextlib.redirect_stderr(err):
            for name, call in all_calls(self.f, self.xy):
                call()
        self.assertEqual((out.getvalue(), err.getvalue()), ("", ""))


if __name__ == "__main__":
    unittest.main()
