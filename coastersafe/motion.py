"""How fast trains are at the metres of a track, and how long they need."""

from coastersafe.errors import BadNumber, NotFitting
from coastersafe.numbers import added, divided_down, divided_up, root_down, root_up

CLIMB = 1962
MOST_COUNT = 20000
METRE_TIME = 100000000


def after_metre(layout, train, metre, energy, friction, strength):
    """The energy after a metre; the strength is None for an open brake."""
    _check_start(layout, metre, energy)
    kind, slope, _ = layout.metre(metre)
    rest = energy - CLIMB * slope - friction
    if kind == "lift":
        return max(train.lift, rest)
    if kind == "brake" and strength is None:
        return max(train.drive, rest)
    if energy == 0:
        return 0
    if kind == "brake":
        return max(0, rest - strength)
    return max(0, rest)


def _check_start(layout, metre, energy):
    if not 0 <= metre < layout.total():
        raise BadNumber("there is no such metre")
    if energy < 0:
        raise BadNumber("an energy is not negative")


def roll(layout, train, metre, energy, frictions, strengths):
    """The energies after each of as many metres as there are frictions."""
    _check_start(layout, metre, energy)
    if len(frictions) != len(strengths):
        raise NotFitting("there are not as many strengths as frictions")
    energies = []
    for friction, strength in zip(frictions, strengths):
        energy = after_metre(layout, train, metre, energy, friction, strength)
        energies.append(energy)
        metre = (metre + 1) % layout.total()
    return energies


def energies_after(layout, train, metre, energy, count, closed):
    """The intervals of the energies after each of some metres, with all brakes closed or all open."""
    if not 0 <= count <= MOST_COUNT:
        raise BadNumber("the count is out of its range")
    weakest, strongest = train.brake if closed else (None, None)
    least = roll(layout, train, metre, energy, [train.friction[1]] * count, [strongest] * count)
    greatest = roll(layout, train, metre, energy, [train.friction[0]] * count, [weakest] * count)
    return list(zip(least, greatest))


def greatest_energies(layout, train):
    """The greatest energy at the begin of each metre, of a train that goes on through open brakes."""
    total = layout.total()
    # A round ends in an open brake, so it never ends below the drive energy with which the first one began:
    # at no metre is the second round slower than the first.
    rounds = _driven_energies(layout, train, 0, 2 * total, train.friction[0])
    return rounds[total:]


def least_energies(layout, train):
    """The least energy at the begin of each metre, of a train that began the block with the drive energy."""
    energies = []
    for block in range(layout.blocks()):
        begin = layout.begin(block)
        count = layout.end(block) - begin
        energies.extend(_driven_energies(layout, train, begin, count, train.friction[1]))
    return energies


def _driven_energies(layout, train, metre, count, friction):
    """The energies at the begins of some metres, of a train that comes to the first one with the drive energy."""
    energies = roll(layout, train, metre, train.drive, [friction] * (count - 1), [None] * (count - 1))
    return [train.drive] + energies


def metre_times(low, high):
    """The interval of the microseconds for a metre with energies from low to high."""
    if not 1 <= low <= high:
        raise BadNumber("the energies are no interval from 1 on")
    return (divided_down(METRE_TIME, root_up(high)), divided_up(METRE_TIME, root_down(low)))


def way_times(layout, train, block):
    """The interval of the times from the begin of a block to its brake, or None if a train may stall there."""
    begin = layout.begin(block)
    brake = layout.brake(block)
    least = least_energies(layout, train)
    if 0 in least[begin:brake + 1]:
        return None
    return span_times(least, greatest_energies(layout, train), begin, brake)


def span_times(least, greatest, metre, behind):
    """The interval of the sums of the times of the metres from one on to the one before another.

    All of them and the one behind are in one block, and their least energies are not 0.
    """
    times = (0, 0)
    for at in range(metre, behind):
        low = min(least[at], least[at + 1])
        high = max(greatest[at], greatest[at + 1])
        times = added(times, metre_times(low, high))
    return times
