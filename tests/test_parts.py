"""[6] and [7]: which joints hold each other, stiff frames, and parts."""

import itertools
import unittest

from stiffbars.choice import worth
from stiffbars.errors import BadBar, BadCount
from stiffbars.knots import too_many
from stiffbars.parts import holds, is_stiff, parts
from tests.by_definition import (
    all_pairs, held_pairs, lying, parts_of, shuffled, some_frames, some_steps, stiff_bars, walk, without, worth_of,
)

# What is no joint of a frame of four.
NO_JOINTS = (-1, 4, 16, 10 ** 5000, True, False, None, "", "1", 1.0, [1], (1,), {})


class PartsTest(unittest.TestCase):
    def told_as_defined(self, count, bars):
        pairs = held_pairs(count, bars)
        for one, other in itertools.permutations(range(count), 2):
            self.assertIs(holds(count, bars, one, other), (one, other) in pairs, (bars, one, other))
        self.assertEqual(parts(count, bars), parts_of(count, bars), (count, bars))
        self.assertIs(is_stiff(count, bars), len(pairs) == count * (count - 1), (count, bars))
        self.keeps_to_7(count, bars)

    def keeps_to_7(self, count, bars):
        """Check what [6] and [7] say of parts, whatever they are."""
        told = parts(count, bars)
        self.assertIs(type(told), list)
        self.assertEqual(told, sorted(told))
        for part in told:
            self.assertIs(type(part), list)
            self.assertTrue(all(type(joint) is int and 0 <= joint < count for joint in part))
            self.assertEqual(part, sorted(set(part)))
            self.assertGreaterEqual(len(part), 2)
        for one, other in itertools.combinations(told, 2):
            self.assertLessEqual(len(set(one) & set(other)), 1)
        for number in range(len(bars)):
            self.assertEqual(sum(number in lying(bars, part) for part in told), 1, (bars, number))
        self.assertEqual(sum(2 * len(part) - 3 for part in told), worth(count, bars))
        self.assertIs(is_stiff(count, bars), count == 1 or told == [list(range(count))])
        together = {(one, other) for part in told for one in part for other in part}
        for one, other in itertools.permutations(range(count), 2):
            self.assertIs(holds(count, bars, one, other), (one, other) in together, (bars, one, other))

    def test_one_joint_alone(self):
        self.assertIs(is_stiff(1, []), True)
        self.assertEqual(parts(1, []), [])
        for one, other in ((0, 0), (0, 1), (1, 0), (1, 2), (-1, 0)):
            with self.assertRaises(BadBar):
                holds(1, [], one, other)

    def test_frames_without_bars(self):
        for count in range(2, 17):
            self.assertIs(is_stiff(count, []), False)
            self.assertEqual(parts(count, []), [])
            self.assertIs(holds(count, [], 0, count - 1), False)

    def test_small_frames(self):
        self.assertIs(holds(2, [(1, 0)], 0, 1), True)
        self.assertEqual(parts(2, [(1, 0), (0, 1)]), [[0, 1]])
        self.assertIs(is_stiff(2, [(1, 0)]), True)
        square = [(0, 1), (1, 2), (2, 3), (3, 0)]
        self.assertEqual(parts(4, square), [[0, 1], [0, 3], [1, 2], [2, 3]])
        self.assertIs(is_stiff(4, square), False)
        self.assertIs(holds(4, square, 0, 2), False)
        self.assertEqual(parts(4, square + [(3, 1)]), [[0, 1, 2, 3]])
        self.assertIs(is_stiff(4, square + [(3, 1)]), True)
        self.assertIs(holds(4, square + [(3, 1)], 0, 2), True)
        self.assertIs(holds(4, square + [(3, 1)], 2, 0), True)

    def test_loose_frames_of_several_parts(self):
        triangles = [(0, 1), (1, 2), (2, 0), (2, 3), (3, 4), (4, 2)]
        self.assertEqual(parts(5, triangles), [[0, 1, 2], [2, 3, 4]])
        self.assertIs(is_stiff(5, triangles), False)
        self.assertIs(holds(5, triangles, 1, 4), False)
        self.assertEqual(parts(5, triangles + [(4, 1)]), [[0, 1, 2, 3, 4]])
        apart = [(9, 11), (10, 9), (11, 10), (0, 5), (15, 5), (15, 0)]
        self.assertEqual(parts(16, apart), [[0, 5, 15], [9, 10, 11]])
        self.assertEqual(parts(16, apart + [(0, 9)]), [[0, 5, 15], [0, 9], [9, 10, 11]])
        self.assertEqual(parts(16, apart + [(0, 9), (10, 5)]), [[0, 5, 15], [0, 9], [5, 10], [9, 10, 11]])
        self.assertEqual(parts(16, apart + [(0, 9), (10, 5), (11, 15)]), [[0, 5, 9, 10, 11, 15]])

    def test_three_parts_in_a_ring_are_one(self):
        bars = [(0, 1), (1, 2), (2, 0), (2, 3), (3, 4), (4, 2), (4, 5), (5, 0), (0, 4)]
        self.assertEqual(parts(6, bars), [[0, 1, 2, 3, 4, 5]])
        self.assertEqual(parts(7, bars + [(6, 5)]), [[0, 1, 2, 3, 4, 5], [5, 6]])

    def test_many_bars_that_leave_a_frame_loose(self):
        bars = all_pairs(10) + all_pairs(6)
        self.assertEqual(parts(11, bars[:59] + [(10, 3)]), [list(range(10)), [3, 10]])
        self.assertIs(is_stiff(11, bars[:59] + [(10, 3)]), False)
        self.assertIs(is_stiff(11, bars[:58] + [(10, 3), (10, 4)]), True)

    def test_joints_hold_each_other_with_60_bars_standing(self):
        bars = [(0, 1)] * 59 + [(1, 2)]
        self.assertIs(holds(3, bars, 0, 1), True)
        self.assertIs(holds(3, bars, 0, 2), False)
        self.assertEqual(parts(3, bars), [[0, 1], [1, 2]])

    def test_what_are_no_two_different_joints(self):
        bars = [(0, 1), (1, 2), (2, 0), (3, 0)]
        for joint in range(4):
            pairs = [(joint, joint)] + [(joint, wrong) for wrong in NO_JOINTS] + [(wrong, joint) for wrong in NO_JOINTS]
            for one, other in pairs:
                with self.assertRaises(BadBar) as caught:
                    holds(4, bars, one, other)
                self.assertIs(type(caught.exception), BadBar)

    def test_the_frame_is_refused_ahead_of_the_joints(self):
        for one, other in ((0, 0), (0, 1), (None, 0)):
            for count in (0, 17, True, None):
                with self.assertRaises(BadCount):
                    holds(count, [(0, 0)], one, other)
            with self.assertRaises(BadBar):
                holds(2, [(0, 0)], one, other)

    def test_all_frames_of_four_joints_with_up_to_six_bars(self):
        for many in range(7):
            for bars in itertools.combinations_with_replacement(all_pairs(4), many):
                self.told_as_defined(4, list(bars))

    def test_all_frames_of_five_joints_without_two_bars_alike(self):
        for many in range(11):
            for bars in itertools.combinations(all_pairs(5), many):
                self.told_as_defined(5, list(bars))

    def test_some_frames_of_all_counts(self):
        for count in range(2, 9):
            for bars in some_frames(count, 2 * count, 12, 100 + count):
                self.told_as_defined(count, bars)

    def test_frames_of_16_joints(self):
        for bars in some_frames(16, 40, 20, 116) + some_frames(16, 60, 20, 117) + [all_pairs(16)[:60]]:
            self.keeps_to_7(16, bars)

    def test_a_frame_of_16_joints_word_by_word(self):
        bars = walk(16, some_steps(16, 1))[:-4]
        pairs = [(0, 15), (3, 8), (7, 2), (14, 12), (9, 1)]
        for one, other in pairs:
            held = worth_of(16, bars + [(one, other)]) == len(bars)
            self.assertIs(holds(16, bars, one, other), held)
            self.assertIs(holds(16, bars, other, one), held)

    def test_parts_stay_where_a_bar_that_is_too_many_goes(self):
        for count in (4, 6, 9, 16):
            for bars in some_frames(count, 3 * count, 10, 120 + count):
                for number in too_many(count, bars):
                    self.assertEqual(parts(count, without(bars, number)), parts(count, bars))

    def test_stiff_frames_and_one_bar_less(self):
        for count in range(2, 17):
            for bars in (stiff_bars(count), walk(count, some_steps(count, count))):
                bars = shuffled(bars, count)
                self.assertIs(is_stiff(count, bars), True)
                self.assertEqual(parts(count, bars), [list(range(count))])
                for number in range(len(bars)):
                    self.assertIs(is_stiff(count, without(bars, number)), False)
                    self.assertIs(holds(count, without(bars, number), *bars[number]), False)


if __name__ == "__main__":
    unittest.main()
