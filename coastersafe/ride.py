"""Rides in scans: trains, parts, faults, moves and dangers."""

from coastersafe.errors import InvalidRide, NotFitting

LEAST_BLOCKS = 2
MOST_BLOCKS = 12
MOST_WAY = 99
MOST_OVER = 20
CHANNELS = (0, 1)


class Ride:
    """Blocks with their ways, the greatest number of scans of a passage, and the blocks of the trains."""

    def __init__(self, ways, over, trains):
        if not _are_ways(ways) or not 1 <= over <= MOST_OVER or not _are_places(trains, len(ways)):
            raise InvalidRide("the ways, scans and trains are no ride")
        self.ways = tuple(ways)
        self.over = over
        self.trains = tuple(trains)

    def first(self):
        """The state at the beginning."""
        return (tuple([("held", block, 0) for block in self.trains]), 0, None)

    def parts(self):
        """All sensors and calipers."""
        blocks = range(len(self.ways))
        sensors = [("sensor", block, channel) for block in blocks for channel in CHANNELS]
        present = [("present", 0, channel) for channel in CHANNELS]
        calipers = [("brake", block, channel) for block in blocks for channel in CHANNELS]
        return sensors + present + calipers


def _are_ways(ways):
    if not LEAST_BLOCKS <= len(ways) <= MOST_BLOCKS:
        return False
    return all([1 <= shortest <= longest <= MOST_WAY for shortest, longest in ways])


def _are_places(trains, blocks):
    if not 1 <= len(trains) < blocks or len(set(trains)) != len(trains):
        return False
    return all([0 <= block < blocks for block in trains])


def readings(ride, state):
    """What the sensors tell, in the order of the parts."""
    trains, _, fault = state
    told = []
    for block in range(len(ride.ways)):
        is_passed = any([kind == "over" and place == block for kind, place, age in trains])
        told.extend([_reading(("sensor", block, channel), is_passed, fault) for channel in CHANNELS])
    is_present = _is_held_in_station(ride, trains)
    told.extend([_reading(("present", 0, channel), is_present, fault) for channel in CHANNELS])
    return tuple(told)


def _reading(part, is_true, fault):
    if fault is not None and fault[0] == part:
        return fault[1]
    return 1 if is_true else 0


def _is_held_in_station(ride, trains):
    return ("held", len(ride.ways) - 1, 0) in trains


def moved(ride, state, commands, bars, late, fault):
    """The state after a move by the commands of a scan."""
    trains, _, old_fault = state
    _check_lengths(ride, trains, commands, late)
    _check_fault(ride, fault, old_fault)
    if fault is None:
        fault = old_fault
    after = []
    for train, is_late in zip(trains, late):
        is_open = _is_open(train[1], commands, fault)
        after.append(_moved_train(ride, train, is_open, is_late))
    return (tuple(after), bars, fault)


def _check_lengths(ride, trains, commands, late):
    if len(commands) != len(CHANNELS) * len(ride.ways):
        raise NotFitting("there is not one command for each caliper")
    if len(trains) != len(ride.trains) or len(late) != len(ride.trains):
        raise NotFitting("there are not as many trains as the ride has")


def _check_fault(ride, fault, old_fault):
    if fault is None:
        return
    if old_fault is not None:
        raise NotFitting("there is a fault already")
    if fault[0] not in ride.parts():
        raise NotFitting("the ride has no such part")


def _is_open(block, commands, fault):
    """Whether both calipers of a block are open."""
    for channel in CHANNELS:
        command = commands[len(CHANNELS) * block + channel]
        if _reading(("brake", block, channel), command == 1, fault) == 0:
            return False
    return True


def _moved_train(ride, train, is_open, is_late):
    kind, block, age = train
    if kind == "held":
        return ("over", block, 0) if is_open else train
    if kind == "way":
        shortest, longest = ride.ways[block]
        if age + 1 >= longest or (age + 1 >= shortest and is_late == 0):
            return ("held", block, 0)
        return ("way", block, age + 1)
    if age + 1 >= ride.over or is_late == 0:
        return ("way", _next_block(ride, block), 0)
    return ("over", block, age + 1)


def _next_block(ride, block):
    return (block + 1) % len(ride.ways)


def dangers(ride, state):
    """The blocks in which two or more trains are, and open bars without a train held in the station."""
    trains, bars, _ = state
    found = []
    for block in range(len(ride.ways)):
        if len([train for train in trains if is_in(ride, train, block)]) > 1:
            found.append(("together", block))
    if bars == 1 and not _is_held_in_station(ride, trains):
        found.append(("bars",))
    return found


def is_in(ride, train, block):
    """Whether a train is in a block; one that is over is in two."""
    kind, place, _ = train
    return place == block or (kind == "over" and _next_block(ride, place) == block)


def is_state(ride, state):
    """Whether a state is one that a ride may have."""
    trains, bars, fault = state
    if len(trains) != len(ride.trains) or bars not in (0, 1):
        return False
    if fault is not None and (fault[0] not in ride.parts() or fault[1] not in (0, 1)):
        return False
    return all([_is_train(ride, train) for train in trains])


def _is_train(ride, train):
    kind, block, age = train
    if not 0 <= block < len(ride.ways):
        return False
    if kind == "held":
        return age == 0
    if kind == "over":
        return 0 <= age < ride.over
    return 0 <= age < ride.ways[block][1]


def is_at_rest(state):
    """Whether all trains are held."""
    return all([kind == "held" for kind, block, age in state[0]])
