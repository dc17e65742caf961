"""How often trains leave the station in plays that repeat themselves."""

from math import gcd

from coastersafe.control import check_fit, scanned, standard_logic
from coastersafe.errors import TooLarge
from coastersafe.ride import Ride

GO = (1, 0, 0)
# Each play of a standard logic comes to a scene again long before so many scans.
MOST_SCANS = 1000000000


def cycle(ride, logic, late, *, limit=20000):
    """The scans before the first scene that comes again, and the scans until it comes again."""
    before, scenes = _scenes_of_play(ride, logic, late, limit)
    return (before, len(scenes) - before)


def _scenes_of_play(ride, logic, late, limit):
    """The number of the first scene that comes again, and all scenes before it comes again."""
    check_fit(ride, logic)
    all_late = (late,) * len(ride.trains)
    scene = (ride.first(), logic.first())
    numbers = {scene: 0}
    while len(numbers) <= limit:
        scene = scanned(ride, logic, scene[0], scene[1], GO, all_late, None)
        if scene in numbers:
            return (numbers[scene], list(numbers))
        numbers[scene] = len(numbers)
    raise TooLarge(limit)


def rate(ride, logic, late, *, limit=20000):
    """How many trains go over from the station in how many scans, in lowest terms."""
    before, scenes = _scenes_of_play(ride, logic, late, limit)
    # A train has this place just after the move in which it goes over.
    gone = ("over", len(ride.ways) - 1, 0)
    times = sum([state[0].count(gone) for state, memory in scenes[before:]])
    scans = len(scenes) - before
    shared = gcd(times, scans)
    return (times // shared, scans // shared)


def best_number(ways, over, late):
    """The least number of trains with which the rate of the standard logic is greatest."""
    blocks = len(ways)
    best = 1
    best_rate = None
    # Also for too few blocks one ride is made, which is refused.
    for number in range(1, max(2, blocks)):
        ride = Ride(ways, over, list(range(blocks - number, blocks)))
        times, scans = rate(ride, standard_logic(ride), late, limit=MOST_SCANS)
        if best_rate is None or times * best_rate[1] > best_rate[0] * scans:
            best = number
            best_rate = (times, scans)
    return best
