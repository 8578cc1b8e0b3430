"""The names, arguments and files of the interface, and the classes of the refusals."""

import inspect
import unittest

from stiffbars import choice, errors, frames, lean


class InterfaceTest(unittest.TestCase):
    def test_functions_stand_in_their_files_with_their_arguments(self):
        listed = [
            (frames, "checked", ["count", "bars"]),
            (frames, "joints_of", ["bars"]),
            (frames, "among", ["bars", "joints"]),
            (lean, "crowded", ["count", "bars"]),
            (choice, "chosen", ["count", "bars"]),
            (choice, "worth", ["count", "bars"]),
        ]
        for module, name, arguments in listed:
            function = getattr(module, name)
            self.assertEqual(function.__module__, module.__name__, name)
            self.assertEqual(list(inspect.signature(function).parameters), arguments, name)

    def test_limits(self):
        self.assertEqual((frames.MOST_JOINTS, frames.MOST_BARS), (16, 60))

    def test_refusals_stand_straight_under_frame_error(self):
        self.assertEqual(errors.FrameError.__bases__, (ValueError,))
        for name in ("BadCount", "BadBar", "NoBar", "Full", "NotLean", "Loose", "BadStep"):
            refusal = getattr(errors, name)
            self.assertEqual(refusal.__bases__, (errors.FrameError,), name)
            self.assertEqual(refusal.__module__, "stiffbars.errors", name)


if __name__ == "__main__":
    unittest.main()
