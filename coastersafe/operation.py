"""Operation of a ride by written lines, and what is counted in a play."""

from coastersafe.control import BUTTONS, check_fit, scanned
from coastersafe.ride import dangers, is_at_rest, is_in
from coastersafe.words import read_numbers

SCAN_WORDS = ("go", "stop", "open", "late")
BAD_LINE = "bad line"


class Operation:
    """A ride with a logic, as the lines so far have left it."""

    def __init__(self, ride, logic):
        self._ride = ride
        self._logic = logic
        self._state = ride.first()
        self._memory = logic.first()
        self._fault_to_come = None

    def reply(self, line):
        """Does what a line says."""
        words = line.split(" ")
        if words[0] == "scan":
            return self._reply_to_scan(words[1:])
        if words[0] == "fault":
            return self._reply_to_fault(words[1:])
        if words == ["rest"]:
            return "rest" if is_at_rest(self._state) else "moving"
        if len(words) == 2 and words[0] == "memory" and words[1] in self._logic.order:
            return f"{words[1]} {self._logic.value(self._memory, words[1])}"
        return BAD_LINE

    def _reply_to_scan(self, words):
        if len(set(words)) != len(words) or not all([word in SCAN_WORDS for word in words]):
            return BAD_LINE
        buttons = tuple([1 if button in words else 0 for button in BUTTONS])
        late = (1 if "late" in words else 0,) * len(self._ride.trains)
        self._state, self._memory = scanned(
            self._ride, self._logic, self._state, self._memory, buttons, late, self._fault_to_come
        )
        self._fault_to_come = None
        word = "danger" if dangers(self._ride, self._state) else "at"
        return f"{word} {_written_state(self._state)}"

    def _reply_to_fault(self, words):
        fault = _read_fault(words)
        if fault is None or fault[0] not in self._ride.parts():
            return BAD_LINE
        if self._fault_to_come is not None or self._state[2] is not None:
            return "fault refused"
        self._fault_to_come = fault
        return "fault noted"


def _written_state(state):
    trains, bars, _ = state
    places = [f"held {block}" if kind == "held" else f"{kind} {block} {age}" for kind, block, age in trains]
    return ", ".join(places) + ("; bars open" if bars == 1 else "; bars closed")


def _read_fault(words):
    """The fault that words tell, whether or not a ride has its part, or None."""
    numbers = read_numbers(words[1:])
    if not numbers or numbers[-1] not in (0, 1):
        return None
    if words[0] in ("sensor", "brake") and len(numbers) == 3:
        return ((words[0], numbers[0], numbers[1]), numbers[2])
    if words[0] == "present" and len(numbers) == 2:
        return (("present", 0, numbers[0]), numbers[1])
    return None


def operate(ride, logic, text):
    """The replies to the lines of an operation."""
    check_fit(ride, logic)
    operation = Operation(ride, logic)
    return [operation.reply(line) for line in text.split("\n")]


def laps(ride, states):
    """For each train how often it comes to be held in the station, in the states after each scan of a play."""
    in_station = ("held", len(ride.ways) - 1, 0)
    counts = [0] * len(ride.trains)
    before = ride.first()[0]
    for trains, bars, fault in states:
        for number, train in enumerate(trains):
            if train == in_station and before[number] != in_station:
                counts[number] += 1
        before = trains
    return counts


def shares(ride, states):
    """For each block the number of states in which some train is in it."""
    return [
        len([state for state in states if any([is_in(ride, train, block) for train in state[0]])])
        for block in range(len(ride.ways))
    ]
