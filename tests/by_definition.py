"""What the document says, worked out from its very words: slow, and without the program."""

import random


def lying(bars, joints):
    """The numbers of the bars that lie among joints."""
    return [number for number, bar in enumerate(bars) if set(bar) <= set(joints)]


def crowds(bars, joints):
    """Whether bars crowd joints, as [3] has it."""
    many = len(set(joints))
    return many >= 2 and len(lying(bars, joints)) > 2 * many - 3


def choice(count, bars):
    """The choice as [4] has it: each bar is tried against all sets of joints, as bits of a number."""
    rooms = {joints: 2 * joints.bit_count() - 3 for joints in range(1 << count) if joints.bit_count() >= 2}
    numbers = []
    for number, (one, other) in enumerate(bars):
        ends = 1 << one | 1 << other
        wide = [joints for joints in rooms if joints & ends == ends]
        if all(rooms[joints] > 0 for joints in wide):
            numbers.append(number)
            for joints in wide:
                rooms[joints] -= 1
    return numbers


def is_lean(count, bars):
    """Whether bars crowd no joints, as [3] has it."""
    sets = [[joint for joint in range(count) if bits >> joint & 1] for bits in range(1 << count)]
    return not any(crowds(bars, joints) for joints in sets)


def stiff_bars(count):
    """2 * count - 3 lean bars that make so many joints stiff: a row of triangles."""
    return [(joint - step, joint) for joint in range(1, count) for step in (1, 2) if joint >= step]


def all_pairs(count):
    return [(one, other) for other in range(count) for one in range(other)]


def some_frames(count, most, many, seed):
    """Many frames of so many joints and up to most bars, the same ones for the same seed."""
    chance = random.Random(seed)
    frames = []
    for _ in range(many):
        bars = []
        for _ in range(chance.randint(0, most)):
            bars.append(tuple(chance.sample(range(count), 2)))
        frames.append(bars)
    return frames


def shuffled(bars, seed):
    """The bars in another order, some of them written the other way round."""
    chance = random.Random(seed)
    rows = [bar if chance.random() < 0.5 else (bar[1], bar[0]) for bar in bars]
    chance.shuffle(rows)
    return rows
