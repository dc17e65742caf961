"""Brakes that hold, layouts that are safe, and the rides that they give."""

from coastersafe.errors import BadNumber, NotFitting
from coastersafe.motion import CLIMB, greatest_energies, least_energies, span_times, way_times
from coastersafe.ride import MOST_OVER, MOST_WAY, Ride

LEAST_SCAN = 1000
MOST_SCAN = 10000000


def envelope(layout, train):
    """For each metre the greatest energy from which a closed brake surely stops a train within its block."""
    limits = []
    for block in range(layout.blocks()):
        backward = []
        limit = 0
        for metre in range(layout.end(block) - 1, layout.begin(block) - 1, -1):
            limit = _limit_before(layout, train, metre, limit)
            backward.append(limit)
        limits.extend(backward[::-1])
    return limits


def _limit_before(layout, train, metre, limit):
    """The envelope of a metre, from the one of the next metre."""
    kind, slope, _ = layout.metre(metre)
    taken = CLIMB * slope + train.friction[0]
    if kind == "lift":
        if train.lift > limit or limit + taken < 0:
            return -1
        return limit + taken
    if kind == "brake":
        taken = taken + train.brake[0]
    return max(0, max(limit, 0) + taken)


def stops(layout, train, metre, energy):
    """Whether a train surely comes to stand within its block, if the brake is closed."""
    if not 0 <= metre < layout.total():
        raise BadNumber("there is no such metre")
    if energy < 0:
        raise BadNumber("an energy is not negative")
    return energy <= envelope(layout, train)[metre]


def faults(layout, train):
    """The faults of a layout and a train, block after block."""
    least = least_energies(layout, train)
    greatest = greatest_energies(layout, train)
    limits = envelope(layout, train)
    found = []
    for block in range(layout.blocks()):
        begin = layout.begin(block)
        brake = layout.brake(block)
        if brake - begin < train.length:
            found.append(("short", block))
        if 0 in least[begin:brake + 1]:
            found.append(("stall", block))
        if greatest[brake] > limits[brake]:
            found.append(("fast", block))
    return found


def passage_times(layout, train, block):
    """The interval of the times in which a train passes into a block, or None if it may stall in the block."""
    begin = layout.begin(block)
    if layout.brake(block) - begin < train.length:
        raise NotFitting("the block is too short for the train")
    if way_times(layout, train, block) is None:
        return None
    least = least_energies(layout, train)
    return span_times(least, greatest_energies(layout, train), begin, begin + train.length)


def ride_of(layout, train, scan, trains):
    """The ride that a safe layout gives, seen in scans of so many microseconds."""
    if not LEAST_SCAN <= scan <= MOST_SCAN:
        raise BadNumber("the scan is out of its range")
    if faults(layout, train):
        raise NotFitting("the layout is not safe for the train")
    least = least_energies(layout, train)
    greatest = greatest_energies(layout, train)
    ways = []
    over = 0
    for block in range(layout.blocks()):
        begin = layout.begin(block)
        behind = begin + train.length
        passage = span_times(least, greatest, begin, behind)
        if passage[0] < scan:
            raise NotFitting("the sensors could miss the train")
        over = max(over, passage[1] // scan + 1)
        ways.append(_way_scans(span_times(least, greatest, behind, layout.brake(block)), scan))
    if over > MOST_OVER or max([longest for shortest, longest in ways]) > MOST_WAY:
        raise NotFitting("a passage or a way takes too many scans")
    return Ride(ways, over, trains)


def _way_scans(times, scan):
    return (max(1, times[0] // scan), times[1] // scan + 1)
