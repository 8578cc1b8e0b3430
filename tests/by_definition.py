"""What the document says, worked out from its very words: slow, and without the program."""

import random


def lying(bars, joints):
    """The numbers of the bars that lie among joints."""
    return [number for number, bar in enumerate(bars) if set(bar) <= set(joints)]


def crowds(bars, joints):
    """Whether bars crowd joints, as [3] has it."""
    many = len(set(joints))
    return many >= 2 and len(lying(bars, joints)) > 2 * many - 3


def choice(count, bars):
    """The choice as [4] has it: each bar is tried against all sets of joints, as bits of a number."""
    rooms = {joints: 2 * joints.bit_count() - 3 for joints in range(1 << count) if joints.bit_count() >= 2}
    numbers = []
    for number, (one, other) in enumerate(bars):
        ends = 1 << one | 1 << other
        wide = [joints for joints in rooms if joints & ends == ends]
        if all(rooms[joints] > 0 for joints in wide):
            numbers.append(number)
            for joints in wide:
                rooms[joints] -= 1
    return numbers


def is_lean(count, bars):
    """Whether bars crowd no joints, as [3] has it."""
    sets = [[joint for joint in range(count) if bits >> joint & 1] for bits in range(1 << count)]
    return not any(crowds(bars, joints) for joints in sets)


def stiff_bars(count):
    """2 * count - 3 lean bars that make so many joints stiff: a row of triangles."""
    return [(joint - step, joint) for joint in range(1, count) for step in (1, 2) if joint >= step]


def all_pairs(count):
    return [(one, other) for other in range(count) for one in range(other)]


def some_frames(count, most, many, seed):
    """Many frames of so many joints and up to most bars, the same ones for the same seed."""
    chance = random.Random(seed)
    frames = []
    for _ in range(many):
        bars = []
        for _ in range(chance.randint(0, most)):
            bars.append(tuple(chance.sample(range(count), 2)))
        frames.append(bars)
    return frames


def shuffled(bars, seed):
    """The bars in another order, some of them written the other way round."""
    chance = random.Random(seed)
    rows = [bar if chance.random() < 0.5 else (bar[1], bar[0]) for bar in bars]
    chance.shuffle(rows)
    return rows


def worth_of(count, bars):
    """The worth as [4] has it."""
    return len(choice(count, bars))


def without(bars, number):
    return bars[:number] + bars[number + 1:]


def over_full(count, bars):
    """For each set of joints that bars crowd, as bits of a number, how many of them lie there too many."""
    many = [0] * (1 << count)
    for one, other in bars:
        many[1 << one | 1 << other] += 1
    for joint in range(count):
        for joints in range(1 << count):
            if joints >> joint & 1:
                many[joints] += many[joints ^ 1 << joint]
    rooms = {joints: 2 * joints.bit_count() - 3 for joints in range(1 << count) if joints.bit_count() >= 2}
    return {joints: many[joints] - rooms[joints] for joints in rooms if many[joints] > rooms[joints]}


def is_knot(bars):
    """Whether bars are not lean, but are lean without any one of them, as [5] has it."""
    joints = sorted({joint for bar in bars for joint in bar})
    rows = [(joints.index(one), joints.index(other)) for one, other in bars]
    crowded = over_full(len(joints), rows)
    ends = [1 << one | 1 << other for one, other in rows]
    return bool(crowded) and all(
        over == 1 and bits & crowd == bits for crowd, over in crowded.items() for bits in ends
    )


def bars_too_many(count, bars):
    """The numbers of the bars without which the worth is the same, as [5] has it."""
    return [at for at in range(len(bars)) if worth_of(count, without(bars, at)) == worth_of(count, bars)]


def held_pairs(count, bars):
    """The pairs of joints, from either side, that hold each other as [6] has it."""
    most = worth_of(count, bars)
    pairs = [(one, other) for one in range(count) for other in range(count) if one != other]
    return {pair for pair in pairs if worth_of(count, bars + [pair]) == most}


def parts_of(count, bars):
    """The parts as [7] has them, found among all sets of joints."""
    pairs = held_pairs(count, bars)
    found = []
    for bits in range(1 << count):
        joints = [joint for joint in range(count) if bits >> joint & 1]
        further = [joint for joint in range(count) if joint not in joints]
        if (
            len(joints) >= 2
            and all((one, other) in pairs for one in joints for other in joints if one != other)
            and not any(all((one, joint) in pairs for one in joints) for joint in further)
        ):
            found.append(joints)
    return sorted(found)


def walk(count, steps):
    """What steps build by [8], as a rising list with the lesser joints first; None where they may not be taken."""
    if count == 1:
        return [] if steps == [] else None
    if not steps or steps[0][0] != "bar":
        return None
    there = set(steps[0][1:])
    bars = {frozenset(there)}
    for word, joint, *ends in steps[1:]:
        if {"two": 2, "three": 3}.get(word) != len(ends) or len(set(ends)) != len(ends):
            return None
        if joint in there or not set(ends) <= there:
            return None
        if word == "three":
            if frozenset(ends[:2]) not in bars:
                return None
            bars.remove(frozenset(ends[:2]))
        bars |= {frozenset((joint, end)) for end in ends}
        there.add(joint)
    return sorted(tuple(sorted(bar)) for bar in bars) if there == set(range(count)) else None


def some_steps(count, seed, threes=0.5):
    """Steps that build so many joints, taken by chance, the same ones for the same seed."""
    chance = random.Random(seed)
    joints = list(range(count))
    chance.shuffle(joints)
    there = joints[:2]
    steps = [("bar", *there)]
    bars = [tuple(there)]
    for joint in joints[2:]:
        if len(there) > 2 and chance.random() < threes:
            one, other = bars.pop(chance.randrange(len(bars)))
            third = chance.choice([end for end in there if end not in (one, other)])
            ends = [one, other, third]
            if chance.random() < 0.5:
                ends[:2] = [other, one]
            steps.append(("three", joint, *ends))
        else:
            ends = chance.sample(there, 2)
            steps.append(("two", joint, *ends))
        bars += [(joint, end) for end in ends]
        there.append(joint)
    return steps


def lesser_first(bars):
    """The bars, each with its lesser joint first, rising."""
    return sorted(tuple(sorted(bar)) for bar in bars)
