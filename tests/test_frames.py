"""[2]: what a frame is; [3]: which bars lie among joints."""

import unittest

from stiffbars.building import steps
from stiffbars.choice import chosen, worth
from stiffbars.errors import BadBar, BadCount
from stiffbars.frames import among, checked, joints_of
from stiffbars.knots import knot, too_many
from stiffbars.lean import crowded
from stiffbars.parts import holds, is_stiff, parts
from tests.by_definition import all_pairs, lying, some_frames

# Of the last two, what is asked of the frame is wrong, too: the frame is refused ahead of it.
ASKED = (
    checked, crowded, chosen, worth, too_many, parts, is_stiff, steps,
    lambda count, bars: knot(count, bars, None),
    lambda count, bars: holds(count, bars, 0, None),
)

WRONG_COUNTS = (0, 17, -1, -16, 1000, 10 ** 5000, True, False, None, "3", "", 3.0, [3], (3,), {})

NO_LISTS = (None, True, 0, 3, "", "01", (), ((0, 1),), {}, {(0, 1): 1}, {(0, 1)}, b"", iter([(0, 1)]))

WRONG_BARS = (
    (0, 5), (5, 0), (-1, 0), (0, -1), (0, 16), (4, 10 ** 5000),
    (0, 0), (4, 4), (5, 5),
    [0, 1], {0: 1, 1: 0}, {0, 1}, "01", b"01", None, 0, True, range(2),
    (), (0,), (0, 1, 2), (0, 1, 2, 3), ((0, 1),),
    (True, 0), (0, True), (False, 1), (1, False), (True, False), (True, 4), (4, False),
    ("0", 1), (0, "1"), (None, 1), (0, None), (0.0, 1), (0, 1.0), ([0], 1), (0, (1,)),
)


class FrameTest(unittest.TestCase):
    def refused(self, refusal, count, bars):
        for function in ASKED:
            with self.assertRaises(refusal) as caught:
                function(count, bars)
            self.assertIs(type(caught.exception), refusal)

    def test_ordinary_frames_are_told_as_lists(self):
        for count, bars in (
            (1, []),
            (2, []),
            (2, [(0, 1)]),
            (2, [(1, 0), (0, 1), (0, 1)]),
            (4, [(3, 0), (1, 2), (0, 3)]),
            (16, [(15, 0), (0, 15), (14, 15)]),
        ):
            told = checked(count, bars)
            self.assertIs(type(told), list)
            self.assertEqual(told, bars)
            self.assertTrue(all(type(bar) is tuple for bar in told))

    def test_all_counts_from_1_to_16(self):
        for count in range(1, 17):
            self.assertEqual(checked(count, []), [])
            self.assertEqual(worth(count, []), 0)
            self.assertEqual(chosen(count, []), [])
            self.assertIsNone(crowded(count, []))

    def test_joints_run_from_0_to_one_below_the_count(self):
        for count in range(2, 17):
            self.assertEqual(checked(count, all_pairs(count)[:60]), all_pairs(count)[:60])
            self.assertEqual(checked(count, [(count - 1, 0)]), [(count - 1, 0)])
            self.refused(BadBar, count, [(0, count)])
            self.refused(BadBar, count, [(count, 0)])

    def test_a_joint_alone_has_no_bars(self):
        for bar in ((0, 0), (0, 1), (1, 0), (1, 2)):
            self.refused(BadBar, 1, [bar])

    def test_wrong_counts(self):
        for count in WRONG_COUNTS:
            self.refused(BadCount, count, [])
            self.refused(BadCount, count, [(0, 1)])

    def test_the_count_is_refused_ahead_of_the_bars(self):
        for count in WRONG_COUNTS:
            for bars in (None, ((0, 1),), "01", [(0, 0)], [(0, 99)], [None], [(0, 1)] * 61):
                self.refused(BadCount, count, bars)

    def test_what_is_no_list_of_bars(self):
        for bars in NO_LISTS:
            self.refused(BadBar, 3, bars)
            self.refused(BadBar, 1, bars)

    def test_60_bars_and_one_more(self):
        for count, bars in ((2, [(0, 1)] * 60), (16, all_pairs(16)[:60]), (11, all_pairs(11) + [(3, 2)] * 5)):
            self.assertEqual(len(bars), 60)
            self.assertEqual(checked(count, bars), bars)
            self.assertGreater(worth(count, bars), 0)
            self.refused(BadBar, count, bars + [(0, 1)])
        self.refused(BadBar, 2, [(0, 1)] * 1000)

    def test_what_is_no_bar_at_any_place(self):
        good = [(0, 1), (1, 2), (2, 0), (3, 4)]
        for wrong in WRONG_BARS:
            self.refused(BadBar, 5, [wrong])
            for place in range(len(good) + 1):
                self.refused(BadBar, 5, good[:place] + [wrong] + good[place:])

    def test_what_is_no_bar_at_any_place_of_60(self):
        for place in range(60):
            bars = all_pairs(16)[:60]
            bars[place] = (place % 16, place % 16)
            self.refused(BadBar, 16, bars)

    def test_joints_of(self):
        self.assertEqual(joints_of([]), [])
        self.assertEqual(joints_of([(5, 2)]), [2, 5])
        self.assertEqual(joints_of([(9, 10), (10, 9), (2, 9), (0, 15)]), [0, 2, 9, 10, 15])
        for bars in some_frames(16, 60, 20, 1):
            self.assertEqual(joints_of(bars), [j for j in range(16) if any(j in bar for bar in bars)])

    def test_among(self):
        bars = [(0, 1), (2, 1), (1, 0), (0, 2), (3, 4)]
        self.assertEqual(among(bars, []), [])
        self.assertEqual(among([], [0, 1]), [])
        self.assertEqual(among(bars, [0]), [])
        self.assertEqual(among(bars, [0, 1]), [0, 2])
        self.assertEqual(among(bars, [1, 0, 0]), [0, 2])
        self.assertEqual(among(bars, [2, 0, 1]), [0, 1, 2, 3])
        self.assertEqual(among(bars, [0, 3, 4]), [4])
        self.assertEqual(among(bars, [0, 1, 2, 3, 4]), [0, 1, 2, 3, 4])
        for bars in some_frames(16, 60, 20, 2):
            for joints in ([15, 3, 7, 8, 0], [1, 2], list(range(16)), list(range(0, 16, 2))):
                self.assertEqual(among(bars, joints), lying(bars, joints))


if __name__ == "__main__":
    unittest.main()
