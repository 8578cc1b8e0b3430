"""What a frame is: a count of joints, and a list of bars between them."""

from stiffbars.errors import BadBar, BadCount

MOST_JOINTS = 16
MOST_BARS = 60


def checked(count, bars):
    """The bars of a frame as a new list; refuses what is no frame."""
    check_count(count)
    if not isinstance(bars, list):
        raise BadBar("the bars of a frame are a list")
    if len(bars) > MOST_BARS:
        raise BadBar(f"a frame has {MOST_BARS} bars at most")
    for number, bar in enumerate(bars):
        if not is_bar(count, bar):
            raise BadBar(f"bar {number} is no tuple of two different joints of the frame")
    return list(bars)


def check_count(count):
    """Refuses what is no count of joints."""
    if not is_number(count) or not 1 <= count <= MOST_JOINTS:
        raise BadCount(f"a count of joints is a number from 1 to {MOST_JOINTS}")


def is_bar(count, bar):
    """True where bar is a tuple of two different joints of so many."""
    if not isinstance(bar, tuple) or len(bar) != 2:
        return False
    one, other = bar
    return is_joint(count, one) and is_joint(count, other) and one != other


def is_joint(count, joint):
    """True where joint is a number of a joint of so many."""
    return is_number(joint) and 0 <= joint < count


def is_number(value):
    """True for whole numbers; Python takes True and False for such, the document does not."""
    return isinstance(value, int) and not isinstance(value, bool)


def joints_of(bars):
    """A list of the joints at which bars end, rising."""
    return sorted({joint for bar in bars for joint in bar})


def among(bars, joints):
    """A list of the numbers, rising, of the bars with both ends among joints."""
    return [number for number, (one, other) in enumerate(bars) if one in joints and other in joints]
