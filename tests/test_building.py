"""[8]: steps, and what they build."""

import random
import unittest

from stiffbars.building import built, steps
from stiffbars.errors import BadBar, BadCount, BadStep, Loose, NotLean
from stiffbars.lean import crowded
from stiffbars.parts import is_stiff
from tests.by_definition import (
    all_pairs, lesser_first, parts_of, shuffled, some_frames, some_steps, stiff_bars, walk, without,
)

GOOD = [("bar", 2, 0), ("two", 1, 0, 2), ("three", 4, 0, 1, 2), ("two", 3, 4, 0)]
GOOD_BARS = [(0, 2), (0, 3), (0, 4), (1, 2), (1, 4), (2, 4), (3, 4)]

WRONG_JOINTS = (-1, 5, 16, 10 ** 5000, True, False, None, "0", "", 0.0, [0], (0,), {})

WRONG_STEPS = (
    None, 0, True, "", "bar", "two", b"two", {}, [], ["two", 3, 4, 0], ["three", 3, 0, 2, 1], {"two": 1},
    (), ("two",), ("two", 3), ("two", 3, 4), ("two", 3, 4, 0, 1), ("three", 3, 4, 0), ("three", 3, 4, 0, 1, 2),
    ("bar", 3, 4), ("bar", 3), ("bar", 0, 2, 3), ("bar",),
    ("", 3, 4, 0), ("Two", 3, 4, 0), ("two ", 3, 4, 0), ("four", 3, 0, 1, 2, 4), ("one", 3, 0),
    (None, 3, 4, 0), (2, 3, 4, 0), (b"two", 3, 4, 0), (["two"], 3, 4, 0), (3, 4, 0), (("two",), 3, 4, 0),
    ("bar", 3, 4, 0), ("two", 3, 4, 0, 1), ("three", 3, 4, 0),
)


class StepsTest(unittest.TestCase):
    def built_by_steps(self, count, bars):
        told = steps(count, bars)
        self.assertIs(type(told), list)
        for step in told:
            self.assertIs(type(step), tuple)
            self.assertIs(type(step[0]), str)
            self.assertTrue(all(type(joint) is int for joint in step[1:]))
        self.assertEqual(walk(count, told), lesser_first(bars), (count, bars, told))
        self.assertEqual(built(count, told), lesser_first(bars))

    def test_small_frames(self):
        self.assertEqual(steps(1, []), [])
        for bar in ((0, 1), (1, 0)):
            self.assertIn(steps(2, [bar]), ([("bar", 0, 1)], [("bar", 1, 0)]))
            self.built_by_steps(2, [bar])
        self.built_by_steps(3, [(0, 1), (2, 1), (0, 2)])
        self.built_by_steps(4, [(0, 1), (2, 1), (0, 2), (3, 0), (2, 3)])
        for number in range(6):
            self.built_by_steps(4, without(all_pairs(4), number))

    def test_frames_that_need_steps_of_three(self):
        # Three bars end at each of six joints.
        bars = [(one, other) for one in range(3) for other in range(3, 6)]
        prism = [(0, 1), (1, 2), (2, 0), (3, 4), (4, 5), (5, 3), (0, 3), (1, 4), (2, 5)]
        for seed in range(20):
            self.built_by_steps(6, shuffled(bars, seed))
            self.built_by_steps(6, shuffled(prism, seed))
        words = [step[0] for step in steps(6, prism)]
        self.assertIn("three", words)

    def test_frames_put_together_by_steps(self):
        for count in range(2, 17):
            for seed in range(30):
                bars = walk(count, some_steps(count, seed, threes=seed % 5 / 4))
                self.assertEqual(len(bars), 2 * count - 3)
                self.built_by_steps(count, shuffled(bars, seed))

    def test_rows_of_triangles(self):
        for count in range(2, 17):
            self.built_by_steps(count, stiff_bars(count))

    def test_not_lean_comes_ahead_of_loose(self):
        for count, bars in (
            (2, [(0, 1), (0, 1)]), (3, [(0, 1), (1, 0)]), (16, [(0, 15), (15, 0)]),
            (4, all_pairs(4)), (5, all_pairs(4)), (16, all_pairs(4)),
            (3, [(0, 1), (1, 2), (2, 0), (0, 1)]), (16, stiff_bars(16) + [(0, 15)]), (2, [(0, 1)] * 60),
        ):
            with self.assertRaises(NotLean) as caught:
                steps(count, bars)
            self.assertIs(type(caught.exception), NotLean)

    def test_loose_frames(self):
        for count, bars in (
            (2, []), (3, []), (16, []), (3, [(0, 1)]), (3, [(0, 1), (1, 2)]), (4, [(0, 1), (1, 2), (2, 0)]),
            (4, [(0, 1), (1, 2), (2, 3), (3, 0)]), (16, stiff_bars(16)[:-1]), (16, stiff_bars(15)),
        ):
            with self.assertRaises(Loose) as caught:
                steps(count, bars)
            self.assertIs(type(caught.exception), Loose)

    def test_all_refusals_in_their_order(self):
        for count in (0, 17, True, None):
            with self.assertRaises(BadCount):
                steps(count, [(0, 0)])
        for bars in ([(0, 0)], [(0, 1), (0, 1), (0, 2)], None, [(0, 1)] * 61):
            with self.assertRaises(BadBar):
                steps(2, bars)
        for count in (2, 3, 4, 5):
            for bars in some_frames(count, 2 * count, 60, 130 + count):
                if crowded(count, bars) is not None:
                    with self.assertRaises(NotLean):
                        steps(count, bars)
                elif parts_of(count, bars) != [list(range(count))]:
                    with self.assertRaises(Loose):
                        steps(count, bars)
                else:
                    self.built_by_steps(count, bars)


class BuiltTest(unittest.TestCase):
    def refused(self, count, told, refusal=BadStep):
        with self.assertRaises(refusal, msg=(count, told)) as caught:
            built(count, told)
        self.assertIs(type(caught.exception), refusal)

    def test_good_steps(self):
        self.assertEqual(built(1, []), [])
        self.assertEqual(built(2, [("bar", 1, 0)]), [(0, 1)])
        self.assertEqual(built(2, [("bar", 0, 1)]), [(0, 1)])
        self.assertEqual(built(3, [("bar", 2, 1), ("two", 0, 1, 2)]), [(0, 1), (0, 2), (1, 2)])
        self.assertEqual(built(5, GOOD), GOOD_BARS)
        self.assertEqual(walk(5, GOOD), GOOD_BARS)

    def test_the_bar_that_goes_may_be_named_from_either_side(self):
        start = [("bar", 0, 1), ("two", 2, 0, 1)]
        bars = [(0, 2), (0, 3), (1, 2), (1, 3), (2, 3)]
        self.assertEqual(built(4, start + [("three", 3, 0, 1, 2)]), bars)
        self.assertEqual(built(4, start + [("three", 3, 1, 0, 2)]), bars)

    def test_what_steps_build_is_lean_and_stiff(self):
        for count in range(2, 17):
            for seed in range(30):
                told = some_steps(count, 200 + seed, threes=seed % 5 / 4)
                bars = built(count, told)
                self.assertIs(type(bars), list)
                self.assertTrue(all(type(bar) is tuple for bar in bars))
                self.assertEqual(bars, walk(count, told))
                self.assertIsNone(crowded(count, bars))
                self.assertTrue(is_stiff(count, bars))

    def test_one_joint_alone_is_built_by_no_steps(self):
        for told in ([("bar", 0, 1)], [("bar", 0, 0)], [("two", 0, 1, 2)], [()], [None], None, ()):
            self.refused(1, told)

    def test_no_steps_build_two_joints_or_more(self):
        for count in range(2, 17):
            self.refused(count, [])

    def test_wrong_counts(self):
        for count in (0, 17, -1, True, False, None, "3", 3.0, [3]):
            for told in ([], GOOD, None, [None]):
                self.refused(count, told, BadCount)

    def test_what_is_no_list(self):
        for told in (None, 0, True, "", "bar", tuple(GOOD), (), {}, {("bar", 0, 1): 1}, {("bar", 0, 1)}, iter(GOOD)):
            for count in (1, 2, 5):
                self.refused(count, told)
        self.refused(2, ("bar", 0, 1))

    def test_too_few_or_too_many_steps_for_the_count(self):
        for many in range(len(GOOD)):
            self.refused(5, GOOD[:many])
        for count in (1, 2, 3, 4, 6, 16):
            self.refused(count, GOOD)
        self.refused(4, GOOD[:2] + [("two", 3, 4, 0)])
        self.refused(16, some_steps(15, 0))
        self.refused(15, some_steps(16, 0))

    def test_a_step_left_out_or_told_twice(self):
        for count in (2, 3, 5, 8, 16):
            for seed in range(10):
                told = some_steps(count, seed)
                for place in range(len(told)):
                    self.refused(count, without(told, place))
                    for further in range(len(told) + 1):
                        self.refused(count, told[:further] + [told[place]] + told[further:])

    def test_steps_in_another_order(self):
        for seed in range(40):
            told = some_steps(8, seed)
            mixed = told[1:]
            random.Random(seed).shuffle(mixed)
            mixed.insert(0, told[0])
            bars = walk(8, mixed)
            if bars is None:
                self.refused(8, mixed)
            else:
                self.assertEqual(built(8, mixed), bars)
            self.refused(8, told[1:] + told[:1])

    def test_what_is_no_step_at_any_place(self):
        for wrong in WRONG_STEPS:
            self.refused(5, [wrong])
            for place in range(len(GOOD)):
                self.refused(5, GOOD[:place] + [wrong] + GOOD[place:])
                self.refused(5, GOOD[:place] + [wrong] + GOOD[place + 1:])
            self.refused(5, GOOD + [wrong])

    def test_a_list_in_the_place_of_a_tuple(self):
        for place in range(len(GOOD)):
            self.refused(5, GOOD[:place] + [list(GOOD[place])] + GOOD[place + 1:])

    def test_a_part_more_or_fewer(self):
        for place, step in enumerate(GOOD):
            for other in (step[:-1], step + (0,), step + (3,), step + (None,), step[1:], step[:1], ()):
                self.refused(5, GOOD[:place] + [other] + GOOD[place + 1:])

    def test_another_word(self):
        for place, step in enumerate(GOOD):
            for word in ("bar", "two", "three", "BAR", "", "four", None, 0, b"two", ["two"]):
                if word != step[0]:
                    self.refused(5, GOOD[:place] + [(word, *step[1:])] + GOOD[place + 1:])

    def test_what_is_no_joint(self):
        for place, step in enumerate(GOOD):
            for at in range(1, len(step)):
                for wrong in WRONG_JOINTS:
                    other = step[:at] + (wrong,) + step[at + 1:]
                    self.refused(5, GOOD[:place] + [other] + GOOD[place + 1:])

    def test_joints_told_twice_in_one_step(self):
        start = [("bar", 0, 1), ("two", 2, 0, 1)]
        self.refused(2, [("bar", 0, 0)])
        self.refused(2, [("bar", 1, 1)])
        for ends in ((0, 0), (3, 0), (0, 3), (3, 3)):
            self.refused(4, start + [("two", 3, *ends)])
        for ends in ((0, 1, 0), (0, 1, 1), (0, 0, 1), (0, 0, 0), (0, 1, 3), (3, 1, 0), (0, 3, 1)):
            self.refused(4, start + [("three", 3, *ends)])

    def test_joints_that_are_there_already(self):
        start = [("bar", 0, 1), ("two", 2, 0, 1)]
        last = ("two", 3, 0, 1)
        for step in (("two", 2, 0, 1), ("two", 0, 1, 2), ("three", 2, 0, 1, 3), ("three", 0, 1, 2, 3)):
            self.refused(4, start + [step, last])
            self.refused(4, start + [last, step])

    def test_ends_that_are_not_there_yet(self):
        start = [("bar", 0, 1)]
        self.refused(4, start + [("two", 2, 0, 3), ("two", 3, 0, 1)])
        self.refused(4, start + [("two", 2, 3, 0), ("two", 3, 0, 1)])
        self.refused(4, start + [("three", 2, 0, 1, 3), ("two", 3, 0, 1)])
        self.refused(4, start + [("three", 2, 0, 3, 1), ("two", 3, 0, 1)])
        self.refused(4, [("two", 2, 0, 1), ("bar", 0, 1), ("two", 3, 0, 1)])

    def test_a_bar_that_is_not_there_to_go(self):
        start = [("bar", 0, 1), ("two", 2, 0, 1), ("two", 3, 1, 2)]
        for one, other, third in ((0, 3, 1), (3, 0, 1), (0, 3, 2), (3, 0, 2)):
            self.refused(5, start + [("three", 4, one, other, third)])
        for one, other in ((0, 1), (1, 2), (3, 1), (2, 3), (2, 0)):
            third = next(joint for joint in range(4) if joint not in (one, other))
            told = start + [("three", 4, one, other, third)]
            self.assertEqual(built(5, told), walk(5, told))
        # A bar that went isn't there to go once more.
        self.refused(6, start + [("three", 4, 0, 1, 2), ("three", 5, 0, 1, 2)])
        self.refused(6, start + [("three", 4, 0, 1, 2), ("three", 5, 1, 0, 3)])

    def test_bars_alone_do_not_build(self):
        self.refused(4, [("bar", 0, 1), ("bar", 2, 3)])
        self.refused(3, [("bar", 0, 1), ("bar", 1, 2)])
        self.refused(2, [("bar", 0, 1), ("bar", 0, 1)])


if __name__ == "__main__":
    unittest.main()
