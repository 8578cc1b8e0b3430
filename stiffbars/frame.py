"""A frame that changes."""

from stiffbars.building import steps
from stiffbars.choice import chosen, worth
from stiffbars.errors import BadBar, Full, NoBar
from stiffbars.frames import MOST_BARS, check_count, is_bar, is_number
from stiffbars.knots import knot, too_many
from stiffbars.parts import is_stiff, parts


class Frame:
    """A frame that changes, without bars at first."""

    def __init__(self, count):
        check_count(count)
        self._count = count
        self._coming = 0
        self._standing = {}

    def put(self, one, other):
        """Put a bar between two joints; return its number, which never comes again."""
        if not is_bar(self._count, (one, other)):
            raise BadBar("a bar is put between two different joints of the frame")
        if len(self._standing) >= MOST_BARS:
            raise Full(f"{MOST_BARS} bars stand already")
        number = self._coming
        self._standing[number] = (one, other)
        self._coming = number + 1
        return number

    def take(self, number):
        """Take the bar of that number away; return it as it was put."""
        self._check_number(number)
        return self._standing.pop(number)

    def bars(self):
        """A list of tuples (number, one, other) of the bars that stand, rising."""
        return [(number, one, other) for number, (one, other) in self._standing.items()]

    def worth(self):
        """The worth of the frame of the bars that stand."""
        return worth(self._count, self._rows())

    def parts(self):
        """A list of the parts of the frame of the bars that stand."""
        return parts(self._count, self._rows())

    def is_stiff(self):
        """True where the frame of the bars that stand is stiff."""
        return is_stiff(self._count, self._rows())

    def too_many(self):
        """A list of the numbers of the bars that stand and are too many, rising."""
        numbers = list(self._standing)
        return [numbers[at] for at in too_many(self._count, self._rows())]

    def knot(self, number):
        """A list of the numbers, rising, of the bars of a knot with that bar; None where no knot has it."""
        self._check_number(number)
        numbers = list(self._standing)
        found = knot(self._count, self._rows(), numbers.index(number))
        if found is None:
            return None
        return [numbers[at] for at in found]

    def steps(self):
        """A list of steps that build all joints with some of the bars that stand."""
        rows = self._rows()
        return steps(self._count, [rows[at] for at in chosen(self._count, rows)])

    def _rows(self):
        # The plain functions count bars by their places, which here differ from
        # the numbers once a bar was taken; both rise alike.
        return list(self._standing.values())

    def _check_number(self, number):
        if not is_number(number) or number not in self._standing:
            raise NoBar("no bar that stands has that number")
