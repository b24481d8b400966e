import unittest

from covernets.closed import basis_of, in_closed
from covernets.complements import complement_closed, complement_frame
from covernets.limits import admits, frame_meet, frame_of, frame_within, in_frame, within
from helpers import HUGE, box

LIMIT_LISTS = [
    [],
    [(-1, -1)],
    [(0, 0)],
    [(2, -1), (-1, 1)],
    [(2, 0), (1, 3), (2, 0), (0, 3)],
    [(-1, 0), (1, 2)],
    [(0, -1), (3, 1), (1, 1)],
]


class LimitTest(unittest.TestCase):
    def test_admits(self):
        self.assertIs(admits((2, -1), (2, HUGE)), True)
        self.assertIs(admits((2, -1), (3, 0)), False)
        self.assertIs(admits((0,), (0,)), True)
        self.assertIs(admits((0,), (1,)), False)
        self.assertIs(admits((HUGE, 0), (HUGE + 1, 0)), False)

    def test_within(self):
        self.assertIs(within((2, 3), (2, -1)), True)
        self.assertIs(within((2, -1), (2, HUGE)), False)
        self.assertIs(within((-1,), (-1,)), True)
        self.assertIs(within((0,), (-1,)), True)
        self.assertIs(within((3, 0), (2, 5)), False)
        self.assertIs(within((HUGE,), (HUGE,)), True)

    def test_frame_of(self):
        self.assertEqual(frame_of([]), [])
        self.assertEqual(frame_of([(1, 2), (1, 2), (0, 2), (-1, 0), (5, 0)]), [(-1, 0), (1, 2)])
        self.assertEqual(frame_of([(3,), (-1,), (7,)]), [(-1,)])
        self.assertEqual(frame_of([(HUGE, 0), (HUGE + 1, 0), (0, 1)]), [(0, 1), (HUGE + 1, 0)])

    def test_frame_is_new_and_arguments_stay(self):
        limits = [(1, 2), (0, 2), (-1, 0)]
        first = frame_of(limits)
        self.assertIsNot(first, frame_of(limits))
        self.assertEqual(limits, [(1, 2), (0, 2), (-1, 0)])

    def test_in_frame(self):
        self.assertIs(in_frame([(2, -1), (-1, 1)], (3, 1)), True)
        self.assertIs(in_frame([(2, -1), (-1, 1)], (3, 2)), False)
        self.assertIs(in_frame([], (0, 0)), False)

    def test_frame_meet(self):
        self.assertEqual(frame_meet([(2, -1)], [(-1, 3), (1, 5)]), [(1, 5), (2, 3)])
        self.assertEqual(frame_meet([], [(-1, -1)]), [])
        self.assertEqual(frame_meet([(-1, -1)], [(-1, -1)]), [(-1, -1)])
        for first in LIMIT_LISTS:
            for second in LIMIT_LISTS:
                common = frame_meet(first, second)
                self.assertEqual(common, frame_of(common))
                for marking in box(2, 5):
                    self.assertIs(in_frame(common, marking), in_frame(first, marking) and in_frame(second, marking))

    def test_frame_within(self):
        self.assertIs(frame_within([(2, 3), (0, 0)], [(2, -1)]), True)
        self.assertIs(frame_within([(2, -1)], [(2, 3), (2, 9)]), False)
        self.assertIs(frame_within([], []), True)
        self.assertIs(frame_within([(0, 0)], []), False)
        for first in LIMIT_LISTS:
            for second in LIMIT_LISTS:
                # Numbers of 9 stand for those that only -1 admits.
                expected = all(in_frame(second, marking) for marking in box(2, 9) if in_frame(first, marking))
                self.assertIs(frame_within(first, second), expected)


class ComplementTest(unittest.TestCase):
    def test_examples(self):
        self.assertEqual(complement_closed([(2, 1)], 2), [(-1, 0), (1, -1)])
        self.assertEqual(complement_frame([(-1, 0), (1, -1)], 2), [(2, 1)])

    def test_empty_and_whole_set(self):
        for size in (1, 2, 5):
            zeros, any_numbers = (0,) * size, (-1,) * size
            self.assertEqual(complement_closed([], size), [any_numbers])
            self.assertEqual(complement_closed([zeros], size), [])
            self.assertEqual(complement_frame([], size), [zeros])
            self.assertEqual(complement_frame([any_numbers], size), [])

    def test_twice_and_covering_members(self):
        self.assertEqual(complement_closed([(2, 1), (2, 1), (3, 1)], 2), [(-1, 0), (1, -1)])
        self.assertEqual(complement_frame([(-1, 0), (1, -1), (0, 4), (-1, 0)], 2), [(2, 1)])

    def test_great_numbers(self):
        self.assertEqual(complement_closed([(HUGE, 2)], 2), [(-1, 1), (HUGE - 1, -1)])
        self.assertEqual(complement_frame([(HUGE, -1)], 2), [(HUGE + 1, 0)])
        self.assertEqual(complement_frame([(HUGE, 3)], 2), [(0, 4), (HUGE + 1, 0)])

    def test_closed_sets_and_frames_determine_each_other(self):
        markings = box(3, 2)
        for number in range(1, 120):
            members = [marking for at, marking in enumerate(markings) if (number * 104729 >> at) % 5 == 1]
            frame = complement_closed(members, 3)
            self.assertEqual(frame, frame_of(frame))
            for marking in box(3, 3):
                self.assertIs(in_frame(frame, marking), not in_closed(members, marking))
            self.assertEqual(complement_frame(frame, 3), basis_of(members))

    def test_complements_of_limits(self):
        for limits in LIMIT_LISTS:
            basis = complement_frame(limits, 2)
            self.assertEqual(basis, basis_of(basis))
            for marking in box(2, 6):
                self.assertIs(in_closed(basis, marking), not in_frame(limits, marking))
            self.assertEqual(complement_closed(basis, 2), frame_of(limits))

    def test_arguments_stay_and_results_are_new(self):
        members, limits = [(2, 1), (3, 1)], [(-1, 0), (0, 0)]
        first = complement_closed(members, 2)
        second = complement_frame(limits, 2)
        self.assertIsNot(first, complement_closed(members, 2))
        self.assertIsNot(second, complement_frame(limits, 2))
        self.assertEqual((members, limits), ([(2, 1), (3, 1)], [(-1, 0), (0, 0)]))


if __name__ == "__main__":
    unittest.main()
