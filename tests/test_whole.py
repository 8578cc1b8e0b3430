"""What the document promises over the whole program, in which no function is taken alone."""

import itertools
import random
import unittest

from stiffbars.building import built, steps
from stiffbars.choice import chosen, worth
from stiffbars.frames import among
from stiffbars.knots import knot, too_many
from stiffbars.lean import crowded
from stiffbars.parts import holds, is_stiff, parts
from tests.by_definition import (
    all_pairs, bars_too_many, is_knot, lesser_first, over_full, parts_of, some_frames, some_steps, walk, without,
)


def large_frames():
    """Frames of 16 joints: of 60 bars, of fewer, stiff ones with further bars, and loose ones of some parts."""
    frames = some_frames(16, 60, 8, 150)
    frames.append(all_pairs(16)[:60])
    frames.append(all_pairs(16)[-60:])
    frames.append(all_pairs(8)[:24] + [(one + 8, other + 8) for one, other in all_pairs(8)] + [(0, 15)] * 8)
    for seed in range(4):
        bars = walk(16, some_steps(16, seed))
        frames.append(bars + some_frames(16, 31, 1, seed)[0])
        frames.append(bars[seed + 2:] + bars[seed + 4:])
    return frames


def frames_of_all_kinds():
    """Pairs of a count and bars."""
    frames = [(count, bars) for count in range(2, 16) for bars in some_frames(count, 3 * count, 4, 160 + count)]
    return frames + [(16, bars) for bars in large_frames()] + [(1, []), (2, []), (16, [])]


class WholeTest(unittest.TestCase):
    def test_the_worth_from_both_sides(self):
        for count, bars in frames_of_all_kinds():
            lean = [bars[number] for number in chosen(count, bars)]
            # So many are lean at least ..
            self.assertEqual(over_full(count, lean), {})
            # .. and no more can be: each bar lies among one of these, and no more lean ones lie there.
            told = parts(count, bars)
            for number in range(len(bars)):
                self.assertEqual(sum(number in among(bars, part) for part in told), 1)
            self.assertEqual(sum(2 * len(part) - 3 for part in told), len(lean))
            self.assertEqual(worth(count, bars), len(lean))

    def test_what_is_told_agrees(self):
        for count, bars in frames_of_all_kinds():
            many = too_many(count, bars)
            numbers = chosen(count, bars)
            self.assertLessEqual(set(range(len(bars))) - set(numbers), set(many))
            self.assertIs(crowded(count, bars) is None, many == [])
            self.assertIs(crowded(count, bars) is None, len(numbers) == len(bars))
            self.assertIs(is_stiff(count, bars), count == 1 or worth(count, bars) == 2 * count - 3)
            for one, other in itertools.islice(itertools.permutations(range(count), 2), 0, None, 7):
                grown = bars[:59] + [(one, other)]
                held = worth(count, grown) == worth(count, bars[:59])
                self.assertIs(holds(count, bars[:59], one, other), held)
            for number in range(len(bars)):
                less = worth(count, without(bars, number))
                self.assertEqual(less, worth(count, bars) - (number not in many))
                told = knot(count, bars, number)
                self.assertIs(told is None, number not in many)

    def test_steps_of_the_chosen_bars(self):
        stiff = 0
        for count, bars in frames_of_all_kinds():
            if is_stiff(count, bars):
                lean = [bars[number] for number in chosen(count, bars)]
                told = steps(count, lean)
                self.assertEqual(walk(count, told), lesser_first(lean))
                self.assertEqual(built(count, told), lesser_first(lean))
                stiff += 1
        self.assertGreater(stiff, 10)

    def test_the_order_of_the_bars_does_not_count(self):
        for seed, (count, bars) in enumerate(frames_of_all_kinds()):
            order = list(range(len(bars)))
            random.Random(seed).shuffle(order)
            mixed = [bars[number][::-1] for number in order]
            self.assertEqual(worth(count, mixed), worth(count, bars))
            self.assertEqual(parts(count, mixed), parts(count, bars))
            self.assertEqual(sorted(order[at] for at in too_many(count, mixed)), too_many(count, bars))
            self.assertIs(crowded(count, mixed) is None, crowded(count, bars) is None)

    def test_the_numbers_of_the_joints_do_not_count(self):
        for seed, (count, bars) in enumerate(frames_of_all_kinds()):
            names = list(range(count))
            random.Random(seed).shuffle(names)
            named = [(names[one], names[other]) for one, other in bars]
            self.assertEqual(worth(count, named), worth(count, bars))
            self.assertEqual(chosen(count, named), chosen(count, bars))
            self.assertEqual(too_many(count, named), too_many(count, bars))
            told = sorted(sorted(names[joint] for joint in part) for part in parts(count, bars))
            self.assertEqual(parts(count, named), told)
            self.assertIs(is_stiff(count, named), is_stiff(count, bars))

    def test_further_joints_without_bars_change_nothing(self):
        for count, bars in frames_of_all_kinds():
            if count < 16:
                self.assertEqual(chosen(16, bars), chosen(count, bars))
                self.assertEqual(parts(16, bars), parts(count, bars))
                self.assertEqual(too_many(16, bars), too_many(count, bars))
                self.assertIs(is_stiff(16, bars), False)

    def test_small_frames_against_the_definitions(self):
        for many in range(6):
            for bars in itertools.product(all_pairs(3), repeat=many):
                bars = list(bars)
                self.assertEqual(parts(3, bars), parts_of(3, bars))
                self.assertEqual(too_many(3, bars), bars_too_many(3, bars))
                for number in too_many(3, bars):
                    self.assertTrue(is_knot([bars[at] for at in knot(3, bars, number)]))


if __name__ == "__main__":
    unittest.main()
