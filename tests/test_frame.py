"""A Frame: bars that come and go, and what is told of those that stand; [1], [2] and [4] to [8] of it."""

import copy
import random
import unittest

from stiffbars.building import built
from stiffbars.choice import worth
from stiffbars.errors import BadBar, BadCount, Full, Loose, NoBar
from stiffbars.frame import Frame
from stiffbars.knots import too_many
from stiffbars.lean import crowded
from stiffbars.parts import is_stiff, parts
from tests.by_definition import all_pairs, is_knot, lesser_first, some_frames, stiff_bars, walk

NO_NUMBERS = (-1, True, False, None, "", "0", 0.0, 1.0, [0], (0,), {}, 10 ** 5000)

NO_BARS = (
    (0, 0), (3, 3), (4, 4), (0, 4), (4, 0), (-1, 0), (0, -1), (0, 16), (0, 10 ** 5000), (True, 0), (0, True),
    (False, 1), (1, False), (None, 1), (1, None), ("0", 1), (0, "1"), (0.0, 1), (0, 1.0), ([0], 1), (0, (1,)),
)


def full_frame():
    """A frame of four joints with 60 bars."""
    frame = Frame(4)
    for number in range(60):
        frame.put(*all_pairs(4)[number % 6])
    return frame


def all_told(frame):
    """All that a frame tells of the bars that stand."""
    told = [frame.bars(), frame.worth(), frame.parts(), frame.is_stiff(), frame.too_many()]
    told.append([frame.knot(number) for number, _, _ in frame.bars()])
    told.append(frame.steps() if frame.is_stiff() else None)
    return told


class FrameClassTest(unittest.TestCase):
    def tells(self, frame, count, standing):
        """Check all that a frame tells, where standing has each bar that stands by its number."""
        numbers = sorted(standing)
        rows = [standing[number] for number in numbers]
        self.assertEqual(frame.bars(), [(number, *standing[number]) for number in numbers])
        self.assertTrue(all(type(row) is tuple for row in frame.bars()))
        self.assertEqual(frame.worth(), worth(count, rows))
        self.assertEqual(frame.parts(), parts(count, rows))
        self.assertIs(frame.is_stiff(), is_stiff(count, rows))
        many = [numbers[at] for at in too_many(count, rows)]
        self.assertEqual(frame.too_many(), many)
        for number in numbers:
            knot = frame.knot(number)
            if number not in many:
                self.assertIsNone(knot)
                continue
            self.assertIs(type(knot), list)
            self.assertEqual(knot, sorted(knot))
            self.assertIn(number, knot)
            self.assertTrue(is_knot([standing[at] for at in knot]))
        self.tells_steps(frame, count, rows)

    def tells_steps(self, frame, count, rows):
        if not is_stiff(count, rows):
            with self.assertRaises(Loose) as caught:
                frame.steps()
            self.assertIs(type(caught.exception), Loose)
            return
        bars = walk(count, frame.steps())
        self.assertIsNotNone(bars, rows)
        self.assertEqual(built(count, frame.steps()), bars)
        self.assertLessEqual(set(bars), set(lesser_first(rows)))
        self.assertIsNone(crowded(count, bars))

    def refuses(self, refusal, deed, *arguments):
        with self.assertRaises(refusal, msg=arguments) as caught:
            deed(*arguments)
        self.assertIs(type(caught.exception), refusal)

    def test_counts(self):
        for count in (0, 17, -1, 10 ** 5000, True, False, None, "3", 3.0, [3], (3,)):
            self.refuses(BadCount, Frame, count)
        for count in range(1, 17):
            self.tells(Frame(count), count, {})

    def test_a_new_frame(self):
        self.assertEqual(Frame(1).steps(), [])
        self.assertIs(Frame(1).is_stiff(), True)
        self.assertIs(Frame(2).is_stiff(), False)
        self.assertEqual(Frame(16).bars(), [])
        self.assertEqual(Frame(16).worth(), 0)
        self.assertEqual(Frame(16).parts(), [])
        self.assertEqual(Frame(16).too_many(), [])
        for number in NO_NUMBERS + (0, 1):
            self.refuses(NoBar, Frame(16).take, number)
            self.refuses(NoBar, Frame(16).knot, number)

    def test_a_small_frame(self):
        frame = Frame(4)
        for number, bar in enumerate([(1, 0), (1, 2), (2, 0), (0, 1), (3, 2)]):
            self.assertEqual(frame.put(*bar), number)
        self.assertEqual(frame.bars(), [(0, 1, 0), (1, 1, 2), (2, 2, 0), (3, 0, 1), (4, 3, 2)])
        self.assertEqual(frame.worth(), 4)
        self.assertEqual(frame.parts(), [[0, 1, 2], [2, 3]])
        self.assertEqual(frame.too_many(), [0, 3])
        self.assertEqual(frame.knot(0), [0, 3])
        self.assertIsNone(frame.knot(4))
        self.assertEqual(frame.take(0), (1, 0))
        self.assertEqual(frame.too_many(), [])
        self.assertIsNone(frame.knot(3))
        self.assertEqual(frame.put(3, 0), 5)
        self.assertEqual(frame.put(2, 3), 6)
        self.assertEqual(frame.knot(4), [4, 6])
        self.assertEqual(frame.knot(6), [4, 6])
        self.assertEqual(frame.too_many(), [4, 6])
        self.assertEqual(frame.bars(), [(1, 1, 2), (2, 2, 0), (3, 0, 1), (4, 3, 2), (5, 3, 0), (6, 2, 3)])
        self.assertEqual(walk(4, frame.steps()), [(0, 1), (0, 2), (0, 3), (1, 2), (2, 3)])

    def test_bars_stand_as_they_were_put(self):
        frame = Frame(16)
        for one, other in ((15, 0), (0, 15), (7, 3), (3, 7)):
            number = frame.put(one, other)
            self.assertIs(type(number), int)
            self.assertEqual(frame.bars()[-1], (number, one, other))
        for number, bar in enumerate(((15, 0), (0, 15), (7, 3), (3, 7))):
            taken = frame.take(number)
            self.assertIs(type(taken), tuple)
            self.assertEqual(taken, bar)

    def test_numbers_come_but_once(self):
        frame = Frame(3)
        for number in range(200):
            self.assertEqual(frame.put(0, 1), number)
            self.assertEqual(frame.take(number), (0, 1))
            self.assertEqual(frame.bars(), [])
            self.refuses(NoBar, frame.take, number)
            self.refuses(NoBar, frame.knot, number)
        self.assertEqual(frame.put(1, 2), 200)
        self.assertEqual(frame.put(2, 0), 201)
        self.assertEqual(frame.take(200), (1, 2))
        self.assertEqual(frame.put(1, 0), 202)
        self.assertEqual(frame.bars(), [(201, 2, 0), (202, 1, 0)])

    def test_what_is_no_number_of_a_bar_that_stands(self):
        frame = Frame(4)
        for one, other in [(0, 1), (0, 1), (1, 2), (3, 0)]:
            frame.put(one, other)
        frame.take(2)
        before = all_told(frame)
        for number in NO_NUMBERS + (2, 4, 5, 60):
            self.refuses(NoBar, frame.take, number)
            self.refuses(NoBar, frame.knot, number)
            self.assertEqual(all_told(frame), before)
        self.assertEqual(frame.put(0, 2), 4)

    def test_what_is_no_bar(self):
        frame = Frame(4)
        frame.put(0, 1)
        before = all_told(frame)
        for one, other in NO_BARS:
            self.refuses(BadBar, frame.put, one, other)
            self.assertEqual(all_told(frame), before)
        self.assertEqual(frame.put(1, 2), 1)
        self.refuses(BadBar, Frame(1).put, 0, 0)
        self.refuses(BadBar, Frame(1).put, 0, 1)

    def test_at_most_60_bars_stand(self):
        frame = full_frame()
        standing = {number: all_pairs(4)[number % 6] for number in range(60)}
        self.tells(frame, 4, standing)
        for one, other in all_pairs(4) + [(3, 0)]:
            self.refuses(Full, frame.put, one, other)
        for one, other in NO_BARS:
            self.refuses(BadBar, frame.put, one, other)
        for number in NO_NUMBERS + (60, 61):
            self.refuses(NoBar, frame.take, number)
            self.refuses(NoBar, frame.knot, number)
        self.tells(frame, 4, standing)
        for number in range(60, 70):
            self.assertEqual(frame.take(number - 30), standing.pop(number - 30))
            self.assertEqual(frame.put(1, 3), number)
            standing[number] = (1, 3)
            self.refuses(Full, frame.put, 1, 3)
            self.tells(frame, 4, standing)

    def test_deeds_in_any_order(self):
        for count in (1, 2, 3, 4, 5, 6, 8):
            self.any_deeds(count, 60, count)
        for count in (11, 16):
            self.any_deeds(count, 100, count)

    def any_deeds(self, count, many, seed):
        chance = random.Random(seed)
        frame = Frame(count)
        standing = {}
        coming = 0
        for _ in range(many):
            if standing and chance.random() < 0.4:
                number = chance.choice(sorted(standing))
                self.assertEqual(frame.take(number), standing.pop(number))
            elif count > 1:
                bar = tuple(chance.sample(range(count), 2))
                self.assertEqual(frame.put(*bar), coming)
                standing[coming] = bar
                coming += 1
            number = chance.randint(-1, coming + 1)
            if number not in standing:
                self.refuses(NoBar, chance.choice([frame.take, frame.knot]), number)
            self.refuses(BadBar, frame.put, number, count)
            # Larger ones would take long behind each deed.
            if count <= 8:
                self.tells(frame, count, standing)
        self.tells(frame, count, standing)

    def test_frames_of_16_joints_and_60_bars(self):
        for bars in some_frames(16, 60, 3, 140) + [all_pairs(16)[:60], (stiff_bars(16) * 3)[:60]]:
            frame = Frame(16)
            for one, other in bars:
                frame.put(one, other)
            self.tells_steps(frame, 16, bars)
            self.assertEqual(frame.worth(), worth(16, bars))
            self.assertEqual(frame.parts(), parts(16, bars))
            self.assertEqual(frame.too_many(), too_many(16, bars))

    def test_steps_with_bars_that_are_too_many(self):
        frame = Frame(5)
        for one, other in [(0, 1), (1, 0)] + all_pairs(4):
            frame.put(one, other)
        self.refuses(Loose, frame.steps)
        frame.put(4, 0)
        self.refuses(Loose, frame.steps)
        frame.put(4, 0)
        self.refuses(Loose, frame.steps)
        number = frame.put(4, 3)
        bars = walk(5, frame.steps())
        self.assertEqual(len(bars), 7)
        self.assertLessEqual({(0, 4), (3, 4)}, set(bars))
        frame.take(number)
        self.refuses(Loose, frame.steps)

    def test_what_is_told_may_be_changed(self):
        frame = Frame(5)
        for one, other in all_pairs(4) + [(4, 0), (1, 4)]:
            frame.put(one, other)
        before = all_told(frame)
        for ask in (frame.bars, frame.parts, frame.too_many, frame.steps, lambda: frame.knot(0)):
            kept = [list(item) if isinstance(item, list) else item for item in ask()]
            for change in (list.clear, list.reverse, list.pop, lambda told: told.append((9, 9))):
                told = ask()
                change(told)
                self.assertEqual(ask(), kept)
                self.assertEqual(all_told(frame), before)
        for part in frame.parts():
            part.append(77)
        self.assertEqual(all_told(frame), before)
        self.assertEqual(frame.put(2, 4), 8)

    def test_what_was_told_does_not_change_later(self):
        frame = Frame(4)
        for one, other in all_pairs(4):
            frame.put(one, other)
        told = all_told(frame)
        kept = copy.deepcopy(told)
        frame.put(0, 1)
        all_told(frame)
        for number in range(6):
            frame.take(number)
            all_told(frame)
        self.assertEqual(told, kept)

    def test_asking_changes_nothing(self):
        frame = full_frame()
        frame.take(7)
        before = all_told(frame)
        self.assertEqual(all_told(frame), before)
        self.assertEqual(frame.put(0, 1), 60)

    def test_two_frames_have_nothing_to_do_with_each_other(self):
        one, other = Frame(4), Frame(4)
        for bar in all_pairs(4):
            one.put(*bar)
        self.tells(other, 4, {})
        self.refuses(NoBar, other.take, 0)
        self.assertEqual(other.put(2, 1), 0)
        self.assertEqual(other.put(3, 1), 1)
        self.tells(one, 4, dict(enumerate(all_pairs(4))))
        one.take(0)
        self.tells(other, 4, {0: (2, 1), 1: (3, 1)})
        self.assertEqual(one.put(0, 1), 6)
        self.assertEqual(other.put(0, 1), 2)
        full = full_frame()
        self.refuses(Full, full.put, 0, 1)
        self.assertEqual(other.put(0, 1), 3)


if __name__ == "__main__":
    unittest.main()
