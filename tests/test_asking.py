"""[1]: nothing that is handed in is changed or kept, and what is told is the asker's own."""

import copy
import unittest

from stiffbars.building import built, steps
from stiffbars.choice import chosen, worth
from stiffbars.errors import FrameError
from stiffbars.frame import Frame
from stiffbars.frames import among, checked, joints_of
from stiffbars.knots import knot, too_many
from stiffbars.lean import crowded
from stiffbars.parts import holds, is_stiff, parts
from tests.by_definition import all_pairs, some_frames, stiff_bars

JOINTS = [3, 1, 0, 2, 3]


def steps_or_refusal(bars):
    """The steps that build a frame of 16 joints, or the name of what is refused."""
    try:
        return steps(16, bars)
    except FrameError as refusal:
        return type(refusal).__name__


# Each way to ask, over the bars of a frame of 16 joints.
ASKED = (
    lambda bars: checked(16, bars),
    lambda bars: crowded(16, bars),
    lambda bars: chosen(16, bars),
    lambda bars: worth(16, bars),
    joints_of,
    lambda bars: among(bars, JOINTS),
    lambda bars: knot(16, bars, len(bars) - 1) if bars else None,
    lambda bars: too_many(16, bars),
    lambda bars: holds(16, bars, 0, 15),
    lambda bars: parts(16, bars),
    lambda bars: is_stiff(16, bars),
    steps_or_refusal,
)

FRAMES = [[], [(1, 0)], [(1, 0), (0, 1)], all_pairs(5), stiff_bars(16)] + some_frames(16, 60, 10, 5)


class AskingTest(unittest.TestCase):
    def test_what_is_handed_in_stays_as_it_was(self):
        for bars in FRAMES:
            before = list(bars)
            for ask in ASKED:
                ask(bars)
                self.assertEqual(bars, before)
                self.assertEqual(JOINTS, [3, 1, 0, 2, 3])

    def test_what_is_told_is_told_again(self):
        for bars in FRAMES:
            first = [ask(bars) for ask in ASKED]
            self.assertEqual([ask(bars) for ask in ASKED], first)
            self.assertEqual([ask(list(bars)) for ask in ASKED], first)

    def test_what_is_told_may_be_changed(self):
        for bars in FRAMES:
            before = list(bars)
            for ask in ASKED:
                told = ask(bars)
                if not isinstance(told, list):
                    continue
                kept = copy.deepcopy(told)
                for part in told:
                    if isinstance(part, list):
                        part.append(7)
                told.append((7, 7))
                told.reverse()
                self.assertEqual(bars, before)
                self.assertEqual(ask(bars), kept)
                told.clear()
                self.assertEqual(bars, before)
                self.assertEqual(ask(bars), kept)

    def test_what_was_told_does_not_change_later(self):
        for bars in FRAMES:
            rows = list(bars)
            told = [ask(rows) for ask in ASKED]
            kept = copy.deepcopy(told)
            rows.reverse()
            rows.insert(0, (0, 1))
            for ask in ASKED:
                ask(rows[:60])
            rows.clear()
            for ask in ASKED:
                ask(rows)
            self.assertEqual(told, kept)

    def test_what_was_handed_in_is_not_kept(self):
        rows = [(0, 1), (1, 2), (2, 0)]
        self.assertEqual(worth(16, rows), 3)
        rows[2] = (1, 0)
        self.assertEqual(worth(16, rows), 2)
        self.assertEqual(chosen(16, rows), [0, 1])
        self.assertEqual(crowded(16, rows), [0, 1])
        self.assertEqual(joints_of(rows), [0, 1, 2])
        self.assertEqual(among(rows, [0, 1]), [0, 2])
        self.assertEqual(checked(16, rows), [(0, 1), (1, 2), (1, 0)])
        self.assertEqual(knot(16, rows, 0), [0, 2])
        self.assertEqual(too_many(16, rows), [0, 2])
        self.assertEqual(parts(16, rows), [[0, 1], [1, 2]])
        self.assertIs(holds(16, rows, 0, 2), False)
        self.assertIs(is_stiff(3, rows), False)

    def test_steps_that_are_handed_in(self):
        told = [("bar", 1, 0), ("two", 2, 0, 1), ("three", 3, 0, 1, 2)]
        before = list(told)
        bars = built(4, told)
        self.assertEqual(told, before)
        kept = list(bars)
        bars.clear()
        self.assertEqual(built(4, told), kept)
        bars = built(4, told)
        told[2] = ("two", 3, 0, 1)
        self.assertEqual(bars, kept)
        self.assertEqual(built(4, told), [(0, 1), (0, 2), (0, 3), (1, 2), (1, 3)])
        told.append(("two", 3, 0, 1))
        before = list(told)
        with self.assertRaises(FrameError):
            built(4, told)
        self.assertEqual(told, before)

    def test_frames_do_not_hang_on_what_is_asked_elsewhere(self):
        frame = Frame(16)
        for one, other in stiff_bars(16):
            frame.put(one, other)
        bars, told = frame.bars(), frame.steps()
        for some in FRAMES:
            for ask in ASKED:
                ask(some)
        self.assertEqual(frame.bars(), bars)
        self.assertEqual(frame.steps(), told)
        self.assertIs(frame.is_stiff(), True)


if __name__ == "__main__":
    unittest.main()
