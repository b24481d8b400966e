import random
import unittest

from covernets.closed import Basis, basis_of, closed_within, covers, in_closed, meet
from helpers import HUGE, box


class CoversTest(unittest.TestCase):
    def test_each_number_counts(self):
        self.assertIs(covers((2, 1), (2, 1)), True)
        self.assertIs(covers((3, 1), (2, 1)), True)
        self.assertIs(covers((3, 0), (2, 1)), False)
        self.assertIs(covers((1, 9), (2, 1)), False)

    def test_size_one_and_great_numbers(self):
        self.assertIs(covers((0,), (0,)), True)
        self.assertIs(covers((HUGE,), (HUGE + 1,)), False)
        self.assertIs(covers((HUGE + 1,), (HUGE,)), True)


class BasisTest(unittest.TestCase):
    def test_example(self):
        self.assertEqual(basis_of([(2, 1), (0, 3), (2, 1), (2, 4)]), [(0, 3), (2, 1)])

    def test_empty_and_whole_set(self):
        self.assertEqual(basis_of([]), [])
        self.assertEqual(basis_of([(4, 0, 1), (0, 0, 0)]), [(0, 0, 0)])

    def test_size_one(self):
        self.assertEqual(basis_of([(7,), (3,), (5,), (3,)]), [(3,)])

    def test_great_numbers(self):
        members = [(HUGE, 1), (1, HUGE), (HUGE, HUGE), (HUGE + 1, 0)]
        self.assertEqual(basis_of(members), [(1, HUGE), (HUGE, 1), (HUGE + 1, 0)])

    def test_order_of_the_members_does_not_matter(self):
        members = box(3, 2)[5:20]
        self.assertEqual(basis_of(members), basis_of(members[::-1]))

    def test_least_markings_of_many_sets(self):
        markings = box(2, 3)
        for number in range(1, 300):
            members = [marking for at, marking in enumerate(markings) if (number * 7919 >> at) & 1]
            least = [
                marking for marking in sorted(set(members))
                if not any(other != marking and covers(marking, other) for other in members)
            ]
            self.assertEqual(basis_of(members), least)

    def test_members_stay_as_they_were(self):
        members = [(2, 1), (0, 3), (2, 1)]
        first = basis_of(members)
        second = basis_of(members)
        self.assertEqual(members, [(2, 1), (0, 3), (2, 1)])
        self.assertEqual(first, second)
        self.assertIsNot(first, second)
        first.append(0)
        self.assertEqual(basis_of(members), second)


class ClosedSetTest(unittest.TestCase):
    def test_in_closed(self):
        self.assertIs(in_closed([(2, 1), (0, 3)], (0, 4)), True)
        self.assertIs(in_closed([(2, 1), (0, 3)], (1, 2)), False)
        self.assertIs(in_closed([], (1, 2)), False)
        self.assertIs(in_closed([(0, HUGE)], (0, HUGE - 1)), False)

    def test_meet_example(self):
        self.assertEqual(meet([(2, 0)], [(0, 1), (3, 0)]), [(2, 1), (3, 0)])

    def test_meet_edges(self):
        self.assertEqual(meet([], [(1, 1)]), [])
        self.assertEqual(meet([(1, 1)], []), [])
        self.assertEqual(meet([(0, 0)], [(3, 2), (1, 4)]), [(1, 4), (3, 2)])
        self.assertEqual(meet([(HUGE,)], [(5,)]), [(HUGE,)])

    def test_meet_is_the_common_part(self):
        lists = [[(2, 0), (0, 3)], [(1, 1)], [(3, 1), (0, 2), (3, 1)], [(0, 0)], []]
        for first in lists:
            for second in lists:
                common = meet(first, second)
                self.assertEqual(common, basis_of(common))
                for marking in box(2, 4):
                    expected = in_closed(first, marking) and in_closed(second, marking)
                    self.assertIs(in_closed(common, marking), expected)

    def test_closed_within(self):
        self.assertIs(closed_within([(2, 1), (5, 0)], [(2, 0)]), True)
        self.assertIs(closed_within([(2, 1), (0, 5)], [(2, 0)]), False)
        self.assertIs(closed_within([], []), True)
        self.assertIs(closed_within([], [(1, 1)]), True)
        self.assertIs(closed_within([(HUGE, 0)], []), False)

    def test_arguments_stay_as_they_were(self):
        first, second = [(2, 0), (3, 0)], [(0, 1), (3, 0)]
        meet(first, second)
        closed_within(first, second)
        in_closed(first, (1, 1))
        self.assertEqual((first, second), ([(2, 0), (3, 0)], [(0, 1), (3, 0)]))


class GrowingBasisTest(unittest.TestCase):
    def test_like_comparing_with_each_one(self):
        for seed in range(30):
            chooser = random.Random(seed)
            size = 1 + seed % 5
            basis, members = Basis([]), []
            for turn in range(400):
                # Smaller and smaller ones, so that most of those from before are replaced.
                most = max(1, 40 - turn // 10)
                marking = tuple(chooser.choice((chooser.randint(0, most), most, HUGE)) for _ in range(size))
                known = any(covers(marking, member) for member in members)
                self.assertIs(basis.contains(marking), known)
                if turn % 9 == 8:
                    above = [member for member in members if covers(member, marking)]
                    self.assertEqual(sorted(basis.drop_above(marking)), sorted(above))
                    members = [member for member in members if member not in above]
                else:
                    above = [] if known else [member for member in members if covers(member, marking)]
                    self.assertEqual(sorted(basis.include(marking)), sorted(above))
                    members = [member for member in members if member not in above] + ([] if known else [marking])
                self.assertEqual(sorted(basis.members), sorted(members))


if __name__ == "__main__":
    unittest.main()
