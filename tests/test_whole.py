"""What the document promises over the whole program: the row 'All', refusals and their order, and nothing kept."""

import copy
import importlib.util
import pathlib
import unittest

from starlight import heaps

HEAPS = pathlib.Path(__file__).resolve().parent.parent / "starlight" / "heaps.py"

BELOW = 2 ** 32
FRAME = [60, 10, 50, 20, 40, 30]
PLACES = [100, 70, 3, 5]

# Of the calls on frames: the numbers ahead of w and h, such as may be, each with the least that may not.
FRAME_CALLS = {
    "ap_aperture": ([70], [4097]),
    "ap_ring": ([10, 100], [4097, 4097]),
    "ap_own": ([40, 10, 100], [4097, 4097, 4097]),
    "ap_middle": ([25, 100, 32], [65536, 4097, 33]),
    "ap_moments": ([25, 100], [65536, 4097]),
    "ap_radius": ([300, 128], [513, 257]),
}

# Of the calls on lists: one thing such as may be, list by list, and those that are refused with -3.
LIST_CALLS = {
    "ap_shape": ([[9, 4, 1]], [[[BELOW - 1, 4, 1]], [[9, BELOW - 1, 1]], [[2 ** 25 + 1, 4, 1]], [[9, 4, 2 ** 31]]]),
    "ap_magnitude": ([[5], [7]], [[[0], [7]], [[5], [0]], [[0], [0]]]),
    "ap_power": ([[5]], [[[0]]]),
    "ap_root": ([[5]], []),
}

# How many numbers stand for each place or thing.
WIDTHS = {"ap_aperture": 2, "ap_ring": 2, "ap_own": 1, "ap_middle": 2, "ap_moments": 3, "ap_shape": 3,
          "ap_radius": 1, "ap_magnitude": 1, "ap_power": 1, "ap_root": 1}


def call(module, name, arguments):
    return vars(module)[name](*copy.deepcopy(arguments))


def times(thing, many):
    return [part * many for part in thing]


def behind(first, second):
    """The lists of two things or more, the first ones ahead."""
    return [one + other for one, other in zip(first, second)]


def fresh():
    """The module as if nothing had ever been called."""
    spec = importlib.util.spec_from_file_location("fresh_heaps", HEAPS)
    module = importlib.util.module_from_spec(spec)
    spec.loader.exec_module(module)
    return module


def mixed_calls():
    """Of each function some calls: answered, without a place or thing, refused."""
    found = []
    for name, (numbers, bad) in FRAME_CALLS.items():
        found.append((name, numbers + [3, 2, FRAME, PLACES]))
        found.append((name, [0] * len(numbers) + [2, 3, FRAME[::-1], PLACES]))
        found.append((name, numbers + [1, 1, [7], [32, 32]]))
        found.append((name, numbers + [3, 2, FRAME, []]))
        found.append((name, bad + [3, 2, FRAME, PLACES]))
    for name, (thing, refused) in LIST_CALLS.items():
        found.append((name, times(thing, 3)))
        found.append((name, times(thing, 0)))
        found.append((name, times(thing, 1025)))
        for wrong in refused:
            found.append((name, behind(thing, wrong)))
    return found


class TheTen(unittest.TestCase):
    def test_all_are_there(self):
        names = sorted(name for name in vars(heaps) if name.startswith("ap_"))
        self.assertEqual(names, sorted(list(FRAME_CALLS) + list(LIST_CALLS)))
        self.assertEqual(names, sorted(WIDTHS))

    def test_answers_are_nothing_and_as_many_as_told(self):
        for name, (numbers, bad) in FRAME_CALLS.items():
            for n in (1, 2, 64):
                answer = call(heaps, name, numbers + [3, 2, FRAME, [100, 70] * n])
                self.assertEqual((answer[0], len(answer)), (0, 1 + n * WIDTHS[name]), (name, n))
        for name, (thing, refused) in LIST_CALLS.items():
            for n in (1, 2, 1024):
                answer = call(heaps, name, times(thing, n))
                self.assertEqual((answer[0], len(answer)), (0, 1 + n * WIDTHS[name]), (name, n))

    def test_numbers_of_an_answer_are_within_their_range(self):
        for name, arguments in mixed_calls():
            limit = 2 ** 64 if name == "ap_own" else 2 ** 32
            for number in call(heaps, name, arguments)[1:]:
                self.assertTrue(0 <= number < limit, (name, arguments))

    def test_no_place_and_no_thing(self):
        for name, (numbers, bad) in FRAME_CALLS.items():
            most = [number - 1 for number in bad]
            for ahead in (numbers, most, [0] * len(numbers)):
                self.assertEqual(call(heaps, name, ahead + [3, 2, FRAME, []]), [0], name)
                self.assertEqual(call(heaps, name, ahead + [1, 1, [0], []]), [0], name)
                self.assertEqual(call(heaps, name, ahead + [64, 64, [65535] * 4096, []]), [0], name)
        for name, (thing, refused) in LIST_CALLS.items():
            self.assertEqual(call(heaps, name, times(thing, 0)), [0], name)


class Refusals(unittest.TestCase):
    def refused(self, code, name, arguments):
        self.assertEqual(call(heaps, name, arguments), [code], (name, arguments))

    def test_each_number_out_of_its_range(self):
        for name, (numbers, bad) in FRAME_CALLS.items():
            for at, least in enumerate(bad):
                for number in (least, 2 ** 32 - 1):
                    ahead = numbers[:at] + [number] + numbers[at + 1:]
                    self.refused(-2, name, ahead + [3, 2, FRAME, PLACES])
                    self.refused(-2, name, ahead + [3, 2, FRAME, []])
                    self.refused(-2, name, ahead + [3, 2, [], []])
                    self.refused(-2, name, ahead + [0, 65, [], []])
                # One less is in its range.
                ahead = numbers[:at] + [least - 1] + numbers[at + 1:]
                self.assertEqual(call(heaps, name, ahead + [3, 2, FRAME, PLACES])[0], 0, name)

    def test_sides_out_of_their_range(self):
        for name, (numbers, bad) in FRAME_CALLS.items():
            for side in (0, 65, 2 ** 32 - 1):
                self.refused(-2, name, numbers + [side, 2, [], []])
                self.refused(-2, name, numbers + [3, side, [], []])
            self.refused(-2, name, numbers + [65, 1, [9] * 65, PLACES])
            self.refused(-2, name, numbers + [1, 65, [9] * 65, PLACES])
            self.refused(-2, name, numbers + [0, 1, [], PLACES])
            self.refused(-2, name, numbers + [1, 0, [], PLACES])

    def test_too_many(self):
        for name, (numbers, bad) in FRAME_CALLS.items():
            self.refused(-2, name, numbers + [3, 2, FRAME, [100, 70] * 65])
            self.refused(-2, name, numbers + [3, 2, [0] * 6, [100, 70] * 65])
            self.refused(-2, name, bad + [3, 2, FRAME, [100, 70] * 65])
        for name, (thing, refused) in LIST_CALLS.items():
            self.refused(-2, name, times(thing, 1025))
            self.refused(-2, name, times(thing, 1030))

    def test_three_stands_alone_wherever_it_comes_from(self):
        for name, (thing, refused) in LIST_CALLS.items():
            for wrong in refused:
                self.refused(-3, name, wrong)
                self.refused(-3, name, behind(wrong, thing))
                self.refused(-3, name, behind(thing, wrong))
                self.refused(-3, name, behind(behind(times(thing, 500), wrong), times(thing, 523)))
                self.refused(-3, name, behind(times(thing, 1023), wrong))

    def test_two_goes_ahead_of_three(self):
        for name, (thing, refused) in LIST_CALLS.items():
            for wrong in refused:
                self.refused(-2, name, behind(wrong, times(thing, 1024)))
                self.refused(-2, name, behind(times(thing, 1024), wrong))
                self.refused(-2, name, times(wrong, 1025))

    def test_no_other_function_refuses_with_three(self):
        # Neither numbers nor places of nothing are wrong elsewhere.
        for name, (numbers, bad) in FRAME_CALLS.items():
            answer = call(heaps, name, [0] * len(numbers) + [3, 2, [0] * 6, [0, 0]])
            self.assertEqual((answer[0], len(answer)), (0, 1 + WIDTHS[name]), name)
        self.assertEqual(heaps.ap_root([0]), [0, 0])


class NothingKept(unittest.TestCase):
    def test_answers_are_those_of_a_first_call(self):
        calls = mixed_calls()
        first = [call(fresh(), name, arguments) for name, arguments in calls]
        for earlier, given in calls:
            module = fresh()
            for (name, arguments), want in zip(calls, first):
                call(module, earlier, given)
                self.assertEqual(call(module, name, arguments), want, (earlier, name))

    def test_names_of_the_file_stay(self):
        module = fresh()
        before = {name: copy.deepcopy(value) for name, value in vars(module).items() if not name.startswith("__")}
        for name, arguments in mixed_calls():
            call(module, name, arguments)
        after = {name: value for name, value in vars(module).items() if not name.startswith("__")}
        self.assertEqual(after, before)
        for name, value in after.items():
            if callable(value):
                self.assertEqual((value.__defaults__, vars(value)), (None, {}), name)

    def test_lists_are_neither_changed_nor_given_back(self):
        for name, arguments in mixed_calls():
            handed = copy.deepcopy(arguments)
            answer = vars(heaps)[name](*handed)
            self.assertEqual(handed, arguments, name)
            for argument in handed:
                self.assertIsNot(answer, argument, name)


if __name__ == "__main__":
    unittest.main()
