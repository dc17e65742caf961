"""Records of rides, and the faults that explain them."""

from coastersafe.control import check_fit, commanded, scanned
from coastersafe.errors import NotFitting
from coastersafe.ride import CHANNELS, moved, readings
from coastersafe.ridecheck import all_faults, late_choices


def record_of(ride, logic, scans):
    """The record of a play."""
    check_fit(ride, logic)
    state = ride.first()
    memory = logic.first()
    record = []
    for buttons, late, fault in scans:
        told = readings(ride, state)
        state, memory = scanned(ride, logic, state, memory, buttons, late, fault)
        commands, bars = commanded(ride, logic, memory)
        record.append((told, commands, bars))
    return record


def explanation(ride, record, cause):
    """The least list of late trains that shows that a cause explains a record, or None."""
    _check_entries(ride, record)
    _check_cause(ride, record, cause)
    if not _begins_rightly(ride, record):
        return None
    layers = [{ride.first(): None}]
    for number in range(len(record) - 1):
        fault = cause[0] if cause is not None and cause[1] == number else None
        layers.append(_layer_after(ride, record, number, layers[-1], fault))
    if not layers[-1]:
        return None
    # The states of a layer stand in the order of the least lists that lead to them.
    state = list(layers[-1])[0]
    backward = []
    for layer in layers[:0:-1]:
        state, late = layer[state]
        backward.append(late)
    return backward[::-1]


def _check_entries(ride, record):
    blocks = len(ride.ways)
    for told, commands, bars in record:
        if len(told) != len(CHANNELS) * (blocks + 1) or len(commands) != len(CHANNELS) * blocks:
            raise NotFitting("a tuple of an entry has a wrong length")


def _check_cause(ride, record, cause):
    if cause is None:
        return
    fault, scan = cause
    if fault[0] not in ride.parts():
        raise NotFitting("the ride has no such part")
    if not 0 <= scan <= len(record) - 2:
        raise NotFitting("there is no such scan that is seen")


def _begins_rightly(ride, record):
    return not record or record[0][0] == readings(ride, ride.first())


def _layer_after(ride, record, number, layer, fault):
    """For each state after a move that has the readings of the record the state before it and the late trains."""
    after = {}
    for state in layer:
        for late, following in _followers(ride, record, number, state, fault):
            if following not in after:
                after[following] = (state, late)
    return after


def _followers(ride, record, number, state, fault):
    """The pairs of late trains and the state after a move, as far as it has the readings of the record."""
    told, commands, bars = record[number]
    found = []
    for late in late_choices(ride, state[0]):
        following = moved(ride, state, commands, bars, late, fault)
        if readings(ride, following) == record[number + 1][0]:
            found.append((late, following))
    return found


def causes(ride, record):
    """All causes that explain a record."""
    _check_entries(ride, record)
    if not _begins_rightly(ride, record):
        return []
    layers = [{ride.first(): None}]
    for number in range(len(record) - 1):
        layers.append(_layer_after(ride, record, number, layers[-1], None))
    found = [None] if layers[-1] else []
    faults = all_faults(ride)
    explaining = [_explaining_scans(ride, record, layers, fault) for fault in faults]
    for scan in range(len(record) - 1):
        for fault, scans in zip(faults, explaining):
            if scans >> scan & 1:
                found.append((fault, scan))
    return found


def _explaining_scans(ride, record, layers, fault):
    """The scans in which a fault explains a record: a number with a binary digit for each scan.

    The layers are the states without a fault. All scans are looked at together, since after the move in which the
    fault comes a state leads on to the same states, whenever this was.
    """
    reached = {}
    for number in range(len(record) - 1):
        after = {}
        for state, scans in reached.items():
            for late, following in _followers(ride, record, number, state, None):
                after[following] = after.get(following, 0) | scans
        for state in layers[number]:
            for late, following in _followers(ride, record, number, state, fault):
                after[following] = after.get(following, 0) | 1 << number
        reached = after
    explaining = 0
    for scans in list(reached.values()):
        explaining = explaining | scans
    return explaining
