"""Written rides, trains and plays."""

from coastersafe.control import BUTTONS
from coastersafe.errors import InvalidRide, InvalidText, InvalidTrain
from coastersafe.ride import Ride
from coastersafe.train import Train
from coastersafe.words import read_lines, read_numbers

# For each word that begins a line of a ride how many numbers follow, and which words may begin the next line.
NUMBERS = {"over": 1, "way": 2, "train": 1}
FOLLOWING = {"over": ("way", "train"), "way": ("way", "train"), "train": ("train",)}
KINDS_OF_PARTS = ("sensor", "present", "brake")
EMPTY_SCAN = "-"


def format_ride(ride):
    """The text of a ride."""
    lines = [f"over {ride.over}"]
    lines.extend([f"way {shortest} {longest}" for shortest, longest in ride.ways])
    lines.extend([f"train {block}" for block in ride.trains])
    return "\n".join(lines)


def parse_ride(text):
    """The ride that a text tells."""
    lines = text.split("\n")
    told = {"over": [], "way": [], "train": []}
    expected = ("over",)
    for number, line in enumerate(lines, start=1):
        words = line.split(" ")
        numbers = read_numbers(words[1:])
        if words[0] not in expected or numbers is None or len(numbers) != NUMBERS[words[0]]:
            raise InvalidText(number)
        told[words[0]].append(tuple(numbers))
        expected = FOLLOWING[words[0]]
    try:
        return Ride(told["way"], told["over"][0][0], [row[0] for row in told["train"]])
    except InvalidRide:
        raise InvalidText(len(lines)) from None


def format_train(train):
    """The text of a train."""
    friction = f"friction {train.friction[0]} {train.friction[1]}"
    brake = f"brake {train.brake[0]} {train.brake[1]}"
    return f"train {train.length} {friction} {brake} lift {train.lift} drive {train.drive}"


def parse_train(text):
    """The train that a text tells."""
    words = text.split(" ")
    numbers = read_numbers(words[1:2] + words[3:5] + words[6:8] + words[9:10] + words[11:])
    if numbers is None or len(numbers) != 7:
        raise InvalidText(1)
    length, least_friction, friction, least_brake, brake, lift, drive = numbers
    try:
        train = Train(length, (least_friction, friction), (least_brake, brake), lift, drive)
    except InvalidTrain:
        raise InvalidText(1) from None
    # The words between the numbers were not looked at yet.
    if format_train(train) != text:
        raise InvalidText(1)
    return train


def format_play(scans):
    """The text of the scans of a play."""
    return "\n".join([written_scan(scan) for scan in scans])


def written_scan(scan):
    """The line for a scan of a play."""
    buttons, late, fault = scan
    words = [button for button, number in zip(BUTTONS, buttons) if number == 1]
    trains = [str(train) for train, is_late in enumerate(late) if is_late == 1]
    if trains:
        words.extend(["late"] + trains)
    if fault is not None:
        words.extend(["fault"] + fault_words(fault))
    if not words:
        return EMPTY_SCAN
    return " ".join(words)


def fault_words(fault):
    """The words for a fault."""
    (kind, block, channel), number = fault
    return [kind, str(block), str(channel), str(number)]


def parse_play(text, trains):
    """The scans that a text tells, for so many trains."""
    if text == "":
        return []
    return read_lines(text.split("\n"), 1, lambda line: read_scan(line, trains))


def read_scan(line, trains):
    """The scan of a play that a line tells, for so many trains, or None."""
    words = line.split(" ")
    before_fault = _words_before("fault", words)
    before_late = _words_before("late", before_fault)
    buttons = tuple([1 if button in before_late else 0 for button in BUTTONS])
    numbers = read_numbers(before_fault[len(before_late) + 1:])
    late = tuple([1 if numbers and train in numbers else 0 for train in range(trains)])
    scan = (buttons, late, _read_fault_of_play(words[len(before_fault) + 1:]))
    # What was read with too few or strange words, or in another order, is written in another way.
    if written_scan(scan) != line:
        return None
    return scan


def _words_before(word, words):
    return words[:words.index(word)] if word in words else words


def _read_fault_of_play(words):
    """The fault that words of a play tell, or None."""
    # The 0 is a word of the form, as there is one station only: only blocks and channels may be any numbers.
    if words[:1] == ["present"] and words[1:2] != ["0"]:
        return None
    return read_fault(words)


def read_fault(words):
    """The fault that words tell, with a part of any numbers, or None."""
    if len(words) != 4 or words[0] not in KINDS_OF_PARTS:
        return None
    numbers = read_numbers(words[1:])
    if numbers is None or numbers[2] not in (0, 1):
        return None
    return ((words[0], numbers[0], numbers[1]), numbers[2])
