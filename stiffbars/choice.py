"""The choice of a frame, and its worth."""

from stiffbars.frames import checked
from stiffbars.lean import bare, lay


def chosen(count, bars):
    """A list of the numbers of the chosen bars, rising."""
    rows = checked(count, bars)
    carried = bare(count)
    numbers = []
    for number, (one, other) in enumerate(rows):
        if lay(carried, one, other) is None:
            numbers.append(number)
    return numbers


def worth(count, bars):
    """How many bars are chosen."""
    return len(chosen(count, bars))
