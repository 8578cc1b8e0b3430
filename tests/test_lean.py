"""[3]: which bars are lean, and which joints are crowded."""

import itertools
import unittest

from stiffbars.lean import crowded
from tests.by_definition import all_pairs, choice, crowds, is_lean, shuffled, some_frames, stiff_bars


class LeanTest(unittest.TestCase):
    def lean(self, count, bars):
        self.assertIsNone(crowded(count, bars), (count, bars))

    def not_lean(self, count, bars):
        joints = crowded(count, bars)
        self.assertIs(type(joints), list, (count, bars))
        self.assertEqual(joints, sorted(set(joints)))
        self.assertTrue(all(type(joint) is int and 0 <= joint < count for joint in joints))
        self.assertTrue(crowds(bars, joints), (count, bars, joints))

    def test_small_frames(self):
        self.lean(1, [])
        self.lean(2, [(1, 0)])
        self.lean(3, [(0, 1), (2, 1), (0, 2)])
        self.lean(4, [(0, 1), (2, 1), (3, 2), (0, 3)])
        self.lean(4, all_pairs(4)[:5])
        self.not_lean(4, all_pairs(4))

    def test_two_bars_between_two_joints(self):
        for pair in ([(0, 1), (0, 1)], [(0, 1), (1, 0)], [(1, 0), (1, 0)]):
            self.not_lean(2, pair)
            self.assertEqual(crowded(2, pair), [0, 1])
            self.not_lean(16, [(14, 15), (15, 13)] + pair)
        self.not_lean(2, [(0, 1)] * 60)

    def test_a_crowd_of_few_among_many_joints(self):
        bars = [(joint, joint + 1) for joint in range(15)]
        self.lean(16, bars)
        crowd = [(joint + 11, other + 11) for joint, other in all_pairs(4)]
        self.assertEqual(crowded(16, crowd), [11, 12, 13, 14])
        self.not_lean(16, bars[:11] + crowd)
        self.not_lean(16, crowd + bars[:11])

    def test_two_crowds_at_once(self):
        crowd = all_pairs(4) + [(one + 8, other + 8) for one, other in all_pairs(4)]
        for seed in range(20):
            self.not_lean(12, shuffled(crowd, seed))

    def test_just_enough_bars_and_one_more(self):
        for count in range(2, 17):
            bars = stiff_bars(count)
            self.assertEqual(len(bars), 2 * count - 3)
            for seed in range(10):
                self.lean(count, shuffled(bars, seed))
            for further in all_pairs(count):
                self.not_lean(count, bars + [further])
                self.not_lean(count, [further] + bars)

    def test_just_enough_bars_among_some_joints_and_one_more(self):
        for many in range(2, 16):
            bars = [(one + 16 - many, other + 16 - many) for one, other in stiff_bars(many)]
            self.lean(16, bars)
            self.lean(16, bars + [(0, 15)])
            for further in ((15, 16 - many), (16 - many, 17 - many)):
                self.not_lean(16, bars + [(0, 15), further])

    def test_frames_without_triangles(self):
        # Three joints, each with a bar to three others: 9 bars among 6 joints.
        bars = [(one, other) for one in range(3) for other in range(3, 6)]
        self.lean(6, bars)
        for further in all_pairs(6):
            self.not_lean(6, [further] + bars)
        # Four joints, each with a bar to four others, but for three: 13 bars among 8 joints.
        left_out = [(0, 4), (1, 5), (2, 6)]
        bars = [(one, other) for one in range(4) for other in range(4, 8) if (one, other) not in left_out]
        self.lean(8, bars)
        for further in all_pairs(8):
            self.not_lean(8, bars + [further])

    def test_all_frames_of_four_joints_with_up_to_six_bars(self):
        for many in range(7):
            for bars in itertools.combinations_with_replacement(all_pairs(4), many):
                self.told_as_defined(4, list(bars), is_lean(4, bars))

    def test_some_frames_of_all_counts(self):
        for count in range(2, 9):
            for bars in some_frames(count, 2 * count, 60, count):
                self.told_as_defined(count, bars, is_lean(count, bars))

    def test_some_frames_of_16_joints(self):
        for bars in some_frames(16, 30, 5, 16) + some_frames(16, 60, 2, 17):
            lean = [bars[number] for number in choice(16, bars)]
            self.told_as_defined(16, bars, len(lean) == len(bars))
            self.told_as_defined(16, lean, True)

    def told_as_defined(self, count, bars, is_lean_told):
        if is_lean_told:
            self.lean(count, bars)
        else:
            self.not_lean(count, bars)


if __name__ == "__main__":
    unittest.main()
