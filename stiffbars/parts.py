"""Which joints hold each other, and the parts of a frame."""

from stiffbars.choice import worth
from stiffbars.errors import BadBar
from stiffbars.frames import checked, is_bar
from stiffbars.lean import carrying, crowd_between


def holds(count, bars, one, other):
    """True where the two joints hold each other."""
    rows = checked(count, bars)
    if not is_bar(count, (one, other)):
        raise BadBar("two different joints of the frame are asked for")
    return crowd_between(carrying(count, rows), one, other) is not None


def parts(count, bars):
    """A list of all parts, rising, each a list of joints, rising."""
    rows = checked(count, bars)
    held = held_by_each(count, carrying(count, rows))
    found = []
    for one in range(count):
        for other in held[one]:
            # Those that two joints of a part hold both are all of it: three joints
            # that hold each other two by two are stiff, and two parts that had two
            # joints together would be one.
            part = [joint for joint in held[one] if joint in held[other]]
            if part[:2] == [one, other]:
                found.append(part)
    return found


def held_by_each(count, carried):
    """For each joint a list of those that it holds, rising, itself among them."""
    held = [[joint] for joint in range(count)]
    for other in range(count):
        for one in range(other):
            if crowd_between(carried, one, other) is not None:
                held[one].append(other)
                held[other].append(one)
    return [sorted(joints) for joints in held]


def is_stiff(count, bars):
    """True where each two joints of the frame hold each other."""
    many = worth(count, bars)
    return count == 1 or many == 2 * count - 3
