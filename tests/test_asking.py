"""[1]: nothing that is handed in is changed or kept, and what is told is the asker's own."""

import unittest

from stiffbars.choice import chosen, worth
from stiffbars.frames import among, checked, joints_of
from stiffbars.lean import crowded
from tests.by_definition import all_pairs, some_frames

JOINTS = [3, 1, 0, 2, 3]

# Each way to ask, over the bars of a frame of 16 joints.
ASKED = (
    lambda bars: checked(16, bars),
    lambda bars: crowded(16, bars),
    lambda bars: chosen(16, bars),
    lambda bars: worth(16, bars),
    joints_of,
    lambda bars: among(bars, JOINTS),
)

FRAMES = [[], [(1, 0)], [(1, 0), (0, 1)], all_pairs(5)] + some_frames(16, 60, 10, 5)


class AskingTest(unittest.TestCase):
    def test_what_is_handed_in_stays_as_it_was(self):
        for bars in FRAMES:
            before = list(bars)
            for ask in ASKED:
                ask(bars)
                self.assertEqual(bars, before)
                self.assertEqual(JOINTS, [3, 1, 0, 2, 3])

    def test_what_is_told_is_told_again(self):
        for bars in FRAMES:
            first = [ask(bars) for ask in ASKED]
            self.assertEqual([ask(bars) for ask in ASKED], first)
            self.assertEqual([ask(list(bars)) for ask in ASKED], first)

    def test_what_is_told_may_be_changed(self):
        for bars in FRAMES:
            before = list(bars)
            for ask in ASKED:
                told = ask(bars)
                if not isinstance(told, list):
                    continue
                kept = list(told)
                told.append((7, 7))
                told.reverse()
                self.assertEqual(bars, before)
                self.assertEqual(ask(bars), kept)
                told.clear()
                self.assertEqual(bars, before)
                self.assertEqual(ask(bars), kept)

    def test_what_was_told_does_not_change_later(self):
        for bars in FRAMES:
            rows = list(bars)
            told = [ask(rows) for ask in ASKED]
            kept = [list(value) if isinstance(value, list) else value for value in told]
            rows.reverse()
            rows.insert(0, (0, 1))
            for ask in ASKED:
                ask(rows[:60])
            rows.clear()
            for ask in ASKED:
                ask(rows)
            self.assertEqual(told, kept)

    def test_what_was_handed_in_is_not_kept(self):
        rows = [(0, 1), (1, 2), (2, 0)]
        self.assertEqual(worth(16, rows), 3)
        rows[2] = (1, 0)
        self.assertEqual(worth(16, rows), 2)
        self.assertEqual(chosen(16, rows), [0, 1])
        self.assertEqual(crowded(16, rows), [0, 1])
        self.assertEqual(joints_of(rows), [0, 1, 2])
        self.assertEqual(among(rows, [0, 1]), [0, 2])
        self.assertEqual(checked(16, rows), [(0, 1), (1, 2), (1, 0)])


if __name__ == "__main__":
    unittest.main()
