"""Logics that control rides: what fits a ride, its standard logic, and plays."""

from coastersafe.errors import NotFitting
from coastersafe.logic import parse_logic
from coastersafe.ride import moved, readings

LETTERS_OF_CHANNELS = ("a", "b")
BUTTONS = ("go", "stop", "open")


def fits(ride, logic):
    """Whether a logic reads the sensors and buttons of a ride and commands its calipers and bars."""
    if logic.inputs != tuple(_input_names(ride)):
        return False
    bits = dict(logic.bits)
    return all([name in bits for name in _caliper_names(ride) + ["bars"]])


def check_fit(ride, logic):
    """Raises NotFitting if the logic does not fit the ride."""
    if not fits(ride, logic):
        raise NotFitting("the logic does not fit the ride")


def _input_names(ride):
    sensors = _names_by_channels("s", ride)
    return sensors + ["p" + letter for letter in LETTERS_OF_CHANNELS] + list(BUTTONS)


def _caliper_names(ride):
    return _names_by_channels("b", ride)


def _names_by_channels(beginning, ride):
    return [f"{beginning}{block}{letter}" for block in range(len(ride.ways)) for letter in LETTERS_OF_CHANNELS]


def standard_logic(ride):
    """The logic that lets trains go into free blocks only, from the station only at `go`."""
    lines = ["input " + name for name in _input_names(ride)]
    statements = ["halted := halted or stop"]
    lines.append("bit halted 0")
    for block in range(len(ride.ways)):
        start = 1 if block in ride.trains else 0
        for letter in LETTERS_OF_CHANNELS:
            lines.append(f"bit full{block}{letter} {start}")
            lines.append(f"bit was{block}{letter} 0")
            statements.extend(_watching(ride, block, letter))
    for name in _caliper_names(ride) + ["bars"]:
        lines.append(f"bit {name} 0")
    for block in range(len(ride.ways)):
        statements.extend([f"b{block}{letter} := {_way_out(ride, block)}" for letter in LETTERS_OF_CHANNELS])
    # A train that is told by both sensors is there, whichever of them fails, and `open` keeps its brake closed.
    statements.append("bars := open and pa and pb")
    return parse_logic("\n".join(lines + statements))


def _watching(ride, block, letter):
    """The statements by which one channel remembers whether a train is in a block."""
    before = f"s{(block - 1) % len(ride.ways)}{letter}"
    behind = f"s{block}{letter}"
    was = f"was{block}{letter}"
    full = f"full{block}{letter}"
    # The statement for `was` comes later, so it still tells what the sensor told one scan ago.
    return [f"{full} := {before} or {full} and not ( {was} and not {behind} )", f"{was} := {behind}"]


def _way_out(ride, block):
    """The text of the condition on which the brake of a block is open."""
    following = (block + 1) % len(ride.ways)
    is_free = " and ".join([f"not full{following}{letter}" for letter in LETTERS_OF_CHANNELS])
    if following == 0:
        return f"not halted and {is_free} and go and not open"
    return f"not halted and {is_free}"


def scanned(ride, logic, state, memory, buttons, late, fault):
    """The state and the memory after one scan of a ride with a logic."""
    check_fit(ride, logic)
    after = logic.scan(memory, readings(ride, state) + buttons)
    commands, bars = commanded(ride, logic, after)
    return (moved(ride, state, commands, bars, late, fault), after)


def commanded(ride, logic, memory):
    """The commands for the calipers and that for the bars, in the memory after a scan of a logic that fits."""
    commands = [logic.value(memory, name) for name in _caliper_names(ride)]
    return (tuple(commands), logic.value(memory, "bars"))


def safe_scans(ride):
    """The number of moves after which all trains are held, if none goes over any more."""
    return ride.over + max([longest for shortest, longest in ride.ways])


def play(ride, logic, scans):
    """The states after each of some scans from the beginning."""
    check_fit(ride, logic)
    state = ride.first()
    memory = logic.first()
    states = []
    for buttons, late, fault in scans:
        state, memory = scanned(ride, logic, state, memory, buttons, late, fault)
        states.append(state)
    return states
