"""[4]: the choice of a frame, and its worth."""

import itertools
import unittest

from stiffbars.choice import chosen, worth
from tests.by_definition import all_pairs, choice, is_lean, shuffled, some_frames, stiff_bars


class ChoiceTest(unittest.TestCase):
    def told_as_defined(self, count, bars):
        numbers = chosen(count, bars)
        self.assertIs(type(numbers), list)
        self.assertEqual(numbers, choice(count, bars), (count, bars))
        self.assertIs(type(worth(count, bars)), int)
        self.assertEqual(worth(count, bars), len(numbers))

    def test_small_frames(self):
        self.assertEqual(chosen(1, []), [])
        self.assertEqual(chosen(2, [(1, 0), (0, 1)]), [0])
        self.assertEqual(chosen(3, [(0, 1), (1, 0), (2, 1), (1, 2), (0, 2)]), [0, 2, 4])
        self.assertEqual(chosen(4, all_pairs(4)), [0, 1, 2, 3, 4])
        self.assertEqual(chosen(5, all_pairs(4) + [(4, 0), (4, 1), (2, 4)]), [0, 1, 2, 3, 4, 6, 7])
        self.assertEqual(chosen(2, [(0, 1)] * 60), [0])

    def test_going_on_behind_a_bar_that_is_not_chosen(self):
        bars = [(0, 1), (0, 1), (2, 3), (3, 2), (3, 1), (0, 3), (1, 2)]
        self.assertEqual(chosen(4, bars), [0, 2, 4, 5, 6])
        self.assertEqual(worth(4, bars), 5)

    def test_all_frames_of_four_joints_with_up_to_six_bars(self):
        for many in range(7):
            for bars in itertools.combinations_with_replacement(all_pairs(4), many):
                self.told_as_defined(4, list(bars))

    def test_the_worth_is_the_most_lean_bars(self):
        for count in (3, 4, 5):
            for bars in some_frames(count, 9, 15, 40 + count):
                most = max(
                    many
                    for many in range(len(bars) + 1)
                    if any(is_lean(count, some) for some in itertools.combinations(bars, many))
                )
                self.assertEqual(worth(count, bars), most, bars)

    def test_some_frames_of_all_counts(self):
        for count in range(2, 11):
            for bars in some_frames(count, 60, 20, count):
                self.told_as_defined(count, bars)
            for bars in some_frames(count, 2 * count + 2, 20, 20 + count):
                self.told_as_defined(count, bars)

    def test_some_frames_of_16_joints(self):
        for bars in some_frames(16, 60, 6, 16) + some_frames(16, 32, 6, 17) + [all_pairs(16)[:60]]:
            self.told_as_defined(16, bars)

    def test_stiff_frames_are_worth_two_a_joint_less_three(self):
        for count in range(2, 17):
            bars = stiff_bars(count)
            for further in all_pairs(count):
                self.assertEqual(worth(count, bars + [further]), 2 * count - 3)
                self.assertEqual(chosen(count, bars + [further]), list(range(2 * count - 3)))

    def test_the_worth_in_other_orders(self):
        for count in (3, 6, 11, 16):
            for bars in some_frames(count, 60, 10, 60 + count):
                for seed in range(10):
                    self.assertEqual(worth(count, shuffled(bars, seed)), worth(count, bars))

    def test_the_worth_in_all_orders(self):
        bars = all_pairs(4) + [(0, 1)]
        for order in itertools.permutations(bars):
            self.assertEqual(worth(4, list(order)), 5)


if __name__ == "__main__":
    unittest.main()
