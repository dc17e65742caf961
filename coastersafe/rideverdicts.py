"""Written verdicts of the check of a ride."""

from coastersafe.control import scanned
from coastersafe.errors import InvalidText
from coastersafe.ride import dangers
from coastersafe.ridecheck import check_parts, is_choice, is_safe_list
from coastersafe.ridetext import fault_words, read_fault, read_scan, written_scan
from coastersafe.words import read_lines, read_numbers

KINDS_OF_TRAINS = ("way", "held", "over")
NO_FAULT = "-"


def format_ride_verdict(verdict):
    """The text of a verdict."""
    word, found = verdict
    if word == "unsafe":
        return "\n".join([word] + [written_scan(choice) for choice in found])
    return "\n".join([word] + [_written_scene(scene) for scene in found])


def _written_scene(scene):
    (trains, bars, fault), memory = scene
    words = ["scene"]
    for kind, block, age in trains:
        words.extend([kind, str(block), str(age)])
    words.extend(["bars", str(bars), "fault"])
    words.extend([NO_FAULT] if fault is None else fault_words(fault))
    words.append("memory")
    words.extend([str(number) for number in memory])
    return " ".join(words)


def parse_ride_verdict(ride, logic, text):
    """The verdict that a text tells."""
    lines = text.split("\n")
    if lines[0] == "safe":
        return ("safe", read_lines(lines[1:], 2, lambda line: _read_scene(ride, logic, line)))
    if lines[0] == "unsafe":
        return ("unsafe", read_lines(lines[1:], 2, lambda line: read_scan(line, len(ride.trains))))
    raise InvalidText(1)


def _read_scene(ride, logic, line):
    """The scene that a line tells, whether or not it is one of the ride and the logic, or None."""
    words = line.split(" ")
    at_bars = 1 + 3 * len(ride.trains)
    at_fault = at_bars + 3
    at_memory = at_fault + (1 if words[at_fault:at_fault + 1] == [NO_FAULT] else 4)
    trains = [_read_train(words[at:at + 3]) for at in range(1, at_bars, 3)]
    bars = read_numbers(words[at_bars + 1:at_bars + 2])
    memory = read_numbers(words[at_memory + 1:])
    if None in trains or bars not in ([0], [1]) or memory is None or len(memory) != len(logic.order):
        return None
    scene = ((tuple(trains), bars[0], read_fault(words[at_fault:at_memory])), tuple(memory))
    # The words between the numbers, and a fault that was none, were not looked at yet.
    if _written_scene(scene) != line:
        return None
    return scene


def _read_train(words):
    numbers = read_numbers(words[1:])
    if len(words) != 3 or words[0] not in KINDS_OF_TRAINS or numbers is None:
        return None
    return (words[0], numbers[0], numbers[1])


def accepts_ride(ride, logic, faults, text):
    """Whether a written verdict is true of a ride, a logic and a list of faults."""
    check_parts(ride, logic, faults)
    word, found = parse_ride_verdict(ride, logic, text)
    if word == "safe":
        return is_safe_list(ride, logic, faults, found)
    return _leads_to_danger(ride, logic, faults, found)


def _leads_to_danger(ride, logic, faults, run):
    """Whether a list of choices leads to a scene with a danger, and none before it has one."""
    state = ride.first()
    memory = logic.first()
    for buttons, late, fault in run:
        if dangers(ride, state) or not is_choice(ride, state, faults, (buttons, late, fault)):
            return False
        state, memory = scanned(ride, logic, state, memory, buttons, late, fault)
    return dangers(ride, state) != []
