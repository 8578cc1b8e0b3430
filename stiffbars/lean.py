"""Which bars are lean, told by handing them out to the joints.

Each lean bar is carried by one of its two ends, and no joint carries more
than two: carried[joint] lists the far ends of the bars that joint carries.
A further bar leaves them lean just where both its ends can be rid of all
that they carry: then any k joints with these two among them have four free
hands at least, so that at most 2 * k - 4 of the bars lie among them.
"""

from stiffbars.frames import checked

HANDS = 2


def crowded(count, bars):
    """A list of joints, rising, that the bars crowd; None where they are lean."""
    rows = checked(count, bars)
    carried = bare(count)
    for one, other in rows:
        crowd = lay(carried, one, other)
        if crowd is not None:
            return crowd
    return None


def bare(count):
    """What so many joints carry where there are no bars."""
    return [[] for _ in range(count)]


def carrying(count, rows):
    """What so many joints carry of the chosen ones of the bars."""
    carried = bare(count)
    for one, other in rows:
        lay(carried, one, other)
    return carried


def lay(carried, one, other):
    """Add a bar to lean ones where they stay lean with it, and return None.

    Else add none, and return the fewest joints, rising, that they would crowd.
    """
    crowd = crowd_between(carried, one, other)
    if crowd is None:
        carried[one].append(other)
    return crowd


def crowd_between(carried, one, other):
    """The fewest joints, rising, that lean bars and one more between these two crowd.

    None where they stay lean. These few lie within all joints that they crowd.
    """
    # This never fails: while one carries a bar, it has one free hand at most, but
    # the joints reached from it have three at least, as the bars are lean.
    unload(carried, one, one)
    if unload(carried, other, one):
        return None
    # These k joints carry only bars among themselves. Of the three free hands
    # that they must have, as the bars are lean, other has one, so that the
    # spared joint one is of them, with two: 2 * k - 3 bars lie among them.
    # Where as many lie among any k joints with one and other, which have these
    # three free hands, they carry no bar that leads out: the reached are of them.
    return sorted(reached(carried, other))


def unload(carried, start, spared):
    """Rid start of all that it carries, with no more for spared; True where that can be done."""
    while carried[start]:
        if not pass_on(carried, start, spared):
            return False
    return True


def pass_on(carried, start, spared):
    """Rid start of one bar, by turning bars up to a joint with a free hand; True where there is one."""
    ahead = reached(carried, start)
    free = [joint for joint in ahead if len(carried[joint]) < HANDS and joint != start and joint != spared]
    if not free:
        return False
    joint = free[0]
    while joint != start:
        before = ahead[joint]
        carried[before].remove(joint)
        carried[joint].append(before)
        joint = before
    return True


def reached(carried, start):
    """A dict of the joints to which carried bars lead from start, start too.

    Each stands with the joint that carries the bar to it, start with itself.
    """
    ahead = {start: start}
    waiting = [start]
    while waiting:
        joint = waiting.pop()
        for far in carried[joint]:
            if far not in ahead:
                ahead[far] = joint
                waiting.append(far)
    return ahead
