"""Steps that build a frame, and what steps build."""

from stiffbars.errors import BadStep, Loose, NotLean
from stiffbars.frames import check_count, checked, is_joint, joints_of
from stiffbars.lean import carrying, crowd_between, crowded
from stiffbars.parts import is_stiff

# By the word that a step begins with, how many items it has.
LENGTHS = {"bar": 3, "two": 4, "three": 5}


def steps(count, bars):
    """A list of steps that build all joints with just these bars."""
    rows = checked(count, bars)
    if crowded(count, rows) is not None:
        raise NotLean("only lean bars are built by steps")
    if not is_stiff(count, rows):
        raise Loose("only stiff frames are built by steps")
    backwards = []
    while len(rows) > 1:
        step, rows = last_step(count, rows)
        backwards.append(step)
    backwards.extend([("bar", one, other) for one, other in rows])
    return backwards[::-1]


def last_step(count, rows):
    """A step that may build these stiff lean bars as the last one, and the bars that stand ahead of it."""
    joint = least_tied(rows)
    far = [one + other - joint for one, other in rows if joint in (one, other)]
    rest = [bar for bar in rows if joint not in bar]
    if len(far) == 2:
        return ("two", joint, far[0], far[1]), rest
    one, other, third = gap_first(carrying(count, rest), far)
    return ("three", joint, one, other, third), rest + [(one, other)]


def least_tied(rows):
    """The joint at which the fewest of these stiff lean bars end.

    Two end there at least, or the other joints would be crowded; and three at
    most, as 2 * k - 3 bars have less than four ends for each of k joints.
    """
    ends = [end for bar in rows for end in bar]
    return min(joints_of(rows), key=lambda joint: ends.count(joint))


def gap_first(carried, far):
    """The three joints, ahead two that don't hold each other by what is carried."""
    one, other, third = far
    if crowd_between(carried, one, other) is None:
        return one, other, third
    if crowd_between(carried, one, third) is None:
        return one, third, other
    # If these two held each other as well, the three would be of one part, which
    # the three bars that went with their joint had crowded.
    return other, third, one


def built(count, steps):
    """A list of the bars that steps build, each with its lesser joint first, rising."""
    check_count(count)
    if not isinstance(steps, list):
        raise BadStep("steps are a list")
    rows = []
    for place, step in enumerate(steps):
        if not is_step(count, step) or not may_follow(rows, step):
            raise BadStep(f"step {place} is none that can be taken there")
        rows = after(rows, step)
    if count > 1 and len(joints_of(rows)) < count:
        raise BadStep("the steps do not build all joints")
    return sorted(rows)


def is_step(count, step):
    """True where step is a tuple of a word and as many different joints as belong to it."""
    if not isinstance(step, tuple) or not step:
        return False
    word, *joints = step
    if not isinstance(word, str) or LENGTHS.get(word) != len(step):
        return False
    return all([is_joint(count, joint) for joint in joints]) and len(set(joints)) == len(joints)


def may_follow(rows, step):
    """True where step can be taken with these bars there."""
    word, joint, *ends = step
    if word == "bar":
        return not rows
    # A joint that is there has a bar at any time, as what goes from it is replaced.
    there = joints_of(rows)
    if joint in there or not all([end in there for end in ends]):
        return False
    return word == "two" or lesser_first(ends[0], ends[1]) in rows


def after(rows, step):
    """The bars that are there behind step, where these were ahead of it."""
    word, joint, *ends = step
    kept = list(rows)
    if word == "three":
        kept.remove(lesser_first(ends[0], ends[1]))
    return kept + [lesser_first(joint, end) for end in ends]


def lesser_first(one, other):
    """The bar between the two joints, the lesser one ahead."""
    return (min(one, other), max(one, other))
