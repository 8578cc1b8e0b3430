"""The names, arguments and files of the interface, and the classes of the refusals."""

import inspect
import unittest

from stiffbars import building, choice, errors, frame, frames, knots, lean, parts


class InterfaceTest(unittest.TestCase):
    def test_functions_stand_in_their_files_with_their_arguments(self):
        listed = [
            (frames, "checked", ["count", "bars"]),
            (frames, "joints_of", ["bars"]),
            (frames, "among", ["bars", "joints"]),
            (lean, "crowded", ["count", "bars"]),
            (choice, "chosen", ["count", "bars"]),
            (choice, "worth", ["count", "bars"]),
            (knots, "knot", ["count", "bars", "number"]),
            (knots, "too_many", ["count", "bars"]),
            (parts, "holds", ["count", "bars", "one", "other"]),
            (parts, "parts", ["count", "bars"]),
            (parts, "is_stiff", ["count", "bars"]),
            (building, "steps", ["count", "bars"]),
            (building, "built", ["count", "steps"]),
        ]
        for module, name, arguments in listed:
            function = getattr(module, name)
            self.assertEqual(function.__module__, module.__name__, name)
            self.assertEqual(list(inspect.signature(function).parameters), arguments, name)

    def test_the_methods_of_a_frame_stand_in_its_class(self):
        self.assertEqual(frame.Frame.__module__, "stiffbars.frame")
        self.assertEqual(list(inspect.signature(frame.Frame).parameters), ["count"])
        listed = {
            "put": ["one", "other"], "take": ["number"], "bars": [], "worth": [], "parts": [], "is_stiff": [],
            "too_many": [], "knot": ["number"], "steps": [],
        }
        for name, arguments in listed.items():
            self.assertIn(name, vars(frame.Frame))
            self.assertEqual(list(inspect.signature(getattr(frame.Frame(2), name)).parameters), arguments, name)

    def test_arguments_by_name(self):
        bars = [(0, 1), (1, 0)]
        self.assertEqual(knots.knot(count=2, bars=bars, number=0), [0, 1])
        self.assertIs(parts.holds(count=2, bars=bars, one=0, other=1), True)
        self.assertEqual(building.built(count=2, steps=[("bar", 1, 0)]), [(0, 1)])
        some = frame.Frame(count=2)
        self.assertEqual(some.put(one=0, other=1), 0)
        self.assertIsNone(some.knot(number=0))
        self.assertEqual(some.take(number=0), (0, 1))

    def test_limits(self):
        self.assertEqual((frames.MOST_JOINTS, frames.MOST_BARS), (16, 60))

    def test_refusals_stand_straight_under_frame_error(self):
        self.assertEqual(errors.FrameError.__bases__, (ValueError,))
        for name in ("BadCount", "BadBar", "NoBar", "Full", "NotLean", "Loose", "BadStep"):
            refusal = getattr(errors, name)
            self.assertEqual(refusal.__bases__, (errors.FrameError,), name)
            self.assertEqual(refusal.__module__, "stiffbars.errors", name)


if __name__ == "__main__":
    unittest.main()
