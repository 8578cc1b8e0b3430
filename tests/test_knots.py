"""[5]: knots, and the bars that are too many."""

import itertools
import unittest

from stiffbars.choice import worth
from stiffbars.errors import BadBar, BadCount, NoBar
from stiffbars.knots import knot, too_many
from tests.by_definition import (
    all_pairs, bars_too_many, is_knot, is_lean, over_full, shuffled, some_frames, some_steps, stiff_bars, walk, without,
)

# What is no number of a bar, however many bars there are.
NO_NUMBERS = (-1, -2, True, False, None, "", "0", "1", 0.0, [0], (0,), {}, 60, 10 ** 5000)


class KnotsTest(unittest.TestCase):
    def told_as_defined(self, count, bars, many):
        """Check all that is told of knots, where many are the numbers of the bars that are too many."""
        self.assertEqual(too_many(count, bars), many, (count, bars))
        self.assertIs(type(too_many(count, bars)), list)
        for number in range(len(bars)):
            numbers = knot(count, bars, number)
            if number in many:
                self.is_knot_with(bars, numbers, number)
            else:
                self.assertIsNone(numbers, (count, bars, number))

    def is_knot_with(self, bars, numbers, number):
        self.assertIs(type(numbers), list, (bars, number))
        self.assertEqual(numbers, sorted(set(numbers)))
        self.assertTrue(all(type(at) is int and 0 <= at < len(bars) for at in numbers))
        self.assertIn(number, numbers)
        some = [bars[at] for at in numbers]
        self.assertTrue(is_knot(some), (bars, numbers))
        self.assertEqual(len(some), 2 * len({joint for bar in some for joint in bar}) - 2)

    def test_small_frames(self):
        self.assertEqual(knot(2, [(0, 1), (1, 0)], 0), [0, 1])
        self.assertEqual(knot(2, [(0, 1), (1, 0)], 1), [0, 1])
        self.assertIsNone(knot(2, [(0, 1)], 0))
        self.assertEqual(too_many(2, [(0, 1)]), [])
        self.assertEqual(too_many(2, [(0, 1), (0, 1), (1, 0)]), [0, 1, 2])
        bars = [(4, 0)] + all_pairs(4)
        self.assertIsNone(knot(5, bars, 0))
        for number in range(1, 7):
            self.assertEqual(knot(5, bars, number), [1, 2, 3, 4, 5, 6])
        self.assertEqual(too_many(5, bars), [1, 2, 3, 4, 5, 6])

    def test_frames_without_bars(self):
        for count in (1, 2, 16):
            self.assertEqual(too_many(count, []), [])
            self.assertIs(type(too_many(count, [])), list)
            for number in NO_NUMBERS + (0,):
                with self.assertRaises(NoBar):
                    knot(count, [], number)

    def test_a_knot_of_three_joints_and_more(self):
        # Two triangles with a bar together, and a bar between their other joints.
        bars = [(0, 1), (1, 2), (2, 0), (1, 3), (2, 3), (5, 4), (0, 3)]
        for number in (0, 1, 2, 3, 4, 6):
            self.assertEqual(knot(6, bars, number), [0, 1, 2, 3, 4, 6])
        self.assertIsNone(knot(6, bars, 5))
        # A wheel: each joint of the rim has a bar to both its neighbours and to the hub.
        for rim in range(3, 16):
            wheel = [(joint, (joint + 1) % rim) for joint in range(rim)] + [(joint, rim) for joint in range(rim)]
            for number in range(2 * rim):
                self.assertEqual(knot(rim + 1, wheel, number), list(range(2 * rim)))
            self.assertEqual(too_many(rim + 1, wheel), list(range(2 * rim)))

    def test_one_of_several_knots(self):
        bars = [(0, 1)] * 3 + [(2, 3)] * 2 + [(1, 2)]
        self.told_as_defined(4, bars, [0, 1, 2, 3, 4])
        self.assertEqual(len(knot(4, bars, 0)), 2)
        self.assertEqual(knot(4, bars, 3), [3, 4])
        bars = all_pairs(5)
        self.told_as_defined(5, bars, list(range(10)))

    def test_what_is_no_number_of_a_bar(self):
        for count, bars in ((2, [(0, 1), (1, 0)]), (3, [(0, 1)]), (16, all_pairs(16)[:60])):
            for number in NO_NUMBERS + (len(bars), len(bars) + 1, -len(bars)):
                with self.assertRaises(NoBar) as caught:
                    knot(count, bars, number)
                self.assertIs(type(caught.exception), NoBar)

    def test_the_frame_is_refused_ahead_of_the_number(self):
        for number in (-1, 0, 1, 2, None):
            for count in (0, 17, True, None):
                with self.assertRaises(BadCount):
                    knot(count, [(0, 0)], number)
            for bars in ([(0, 0)], [(0, 2)], None, [(0, 1)] * 61):
                with self.assertRaises(BadBar):
                    knot(2, bars, number)

    def test_all_frames_of_four_joints_with_up_to_six_bars(self):
        for many in range(7):
            for bars in itertools.combinations_with_replacement(all_pairs(4), many):
                self.told_as_defined(4, list(bars), bars_too_many(4, list(bars)))

    def test_knots_word_by_word(self):
        for count in (3, 4, 5, 6):
            for bars in some_frames(count, 12, 20, 70 + count):
                self.assertEqual(is_lean(count, bars), not over_full(count, bars))
                for number in too_many(count, bars):
                    some = [bars[at] for at in knot(count, bars, number)]
                    self.assertFalse(is_lean(count, some))
                    for at in range(len(some)):
                        self.assertTrue(is_lean(count, without(some, at)))

    def test_some_frames_of_all_counts(self):
        for count in range(2, 9):
            for bars in some_frames(count, 2 * count + 3, 25, 80 + count):
                self.told_as_defined(count, bars, bars_too_many(count, bars))

    def test_frames_of_60_bars(self):
        for count in (2, 5, 8):
            for bars in some_frames(count, 60, 2, 90 + count):
                bars = (bars + all_pairs(count) * 60)[:60]
                self.told_as_defined(count, bars, bars_too_many(count, bars))

    def test_frames_of_16_joints(self):
        for seed in range(6):
            lean = shuffled(walk(16, some_steps(16, seed)), seed)
            self.assertEqual(too_many(16, lean), [])
            self.assertIsNone(knot(16, lean, 28))
            bars = lean[:seed * 4] + [(seed, 15)] + lean[seed * 4:] + [(6, seed + 7)]
            many = too_many(16, bars)
            # [5]: without a bar that isn't too many the worth is one less.
            for number in range(len(bars)):
                self.assertEqual(worth(16, without(bars, number)), 29 - (number not in many))
            self.told_as_defined(16, bars, many)

    def test_a_knot_of_all_16_joints(self):
        # Each two neighbours are tied, and each two with one between them: a ring of 16 joints.
        ring = [(at, (at + step) % 16) for at in range(16) for step in (1, 2)]
        numbers = knot(16, ring, 31)
        self.is_knot_with(ring, numbers, 31)
        self.assertEqual(too_many(16, ring), list(range(32)))

    def test_a_bar_in_the_place_of_each_other_one(self):
        for count in range(2, 17):
            bars = stiff_bars(count)
            for at in range(len(bars)):
                doubled = bars + [bars[at]]
                self.assertEqual(too_many(count, doubled), [at, len(bars)])
                self.assertEqual(knot(count, doubled, at), [at, len(bars)])
                self.assertEqual(knot(count, doubled, len(bars)), [at, len(bars)])


if __name__ == "__main__":
    unittest.main()
