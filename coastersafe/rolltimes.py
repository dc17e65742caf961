"""How long a roll takes, in microseconds and in scans."""

from coastersafe.errors import BadNumber
from coastersafe.motion import metre_times, roll
from coastersafe.numbers import added


def roll_times(layout, train, metre, energy, frictions, strengths):
    """The interval of the times of a roll, or None if the train stands somewhere."""
    energies = [energy] + roll(layout, train, metre, energy, frictions, strengths)
    times = (0, 0)
    for before, after in zip(energies, energies[1:]):
        if before == 0 or after == 0:
            return None
        times = added(times, metre_times(min(before, after), max(before, after)))
    return times


def scans_for(time, scan):
    """The interval of the numbers of scans that a time takes."""
    if scan < 1:
        raise BadNumber("a scan must be at least 1")
    whole = time // scan
    return (max(1, whole), whole + 1)


def is_within(inner, outer):
    """Whether an interval is a part of another one."""
    return outer[0] <= inner[0] and inner[1] <= outer[1]
