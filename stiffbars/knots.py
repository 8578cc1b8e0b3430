"""Knots, and the bars that are too many."""

from stiffbars.errors import NoBar
from stiffbars.frames import among, checked, is_number
from stiffbars.lean import bare, lay


def knot(count, bars, number):
    """A list of the numbers, rising, of the bars of a knot with that bar; None where no knot has it."""
    rows = checked(count, bars)
    if not is_number(number) or not 0 <= number < len(rows):
        raise NoBar("no bar of the frame has that number")
    ahead = [at for at in range(len(rows)) if at != number]
    return tied(count, rows, ahead + [number]).get(number)


def too_many(count, bars):
    """A list of the numbers of all bars that are too many, rising."""
    rows = checked(count, bars)
    # A chosen bar that is too many stands in one of these knots: some bar that is
    # not chosen could take its place, and the knot that this one ties has both.
    knots = tied(count, rows, list(range(len(rows))))
    return sorted({number for found in knots.values() for number in found})


def tied(count, rows, order):
    """A dict of the knots that bars tie as they come in that order.

    By the number of each bar that is not lean with those chosen ahead of it:
    the numbers, rising, of the knot that it ties with some of these.
    """
    carried = bare(count)
    laid = []
    knots = {}
    for number in order:
        one, other = rows[number]
        crowd = lay(carried, one, other)
        if crowd is None:
            laid.append(number)
        else:
            # Among these k joints lie 2 * k - 2 bars. Without any one of them the
            # others are lean: all joints that they could crowd have these fewest
            # ones among them, and so room for the 2 * k - 3 bars that are left.
            knots[number] = [at for at in among(rows, crowd) if at == number or at in laid]
    return knots
