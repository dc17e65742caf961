"""Tracks: metres, segments, blocks and layouts."""

from coastersafe.errors import BadNumber, InvalidLayout, InvalidText
from coastersafe.words import read_lines, read_number

KINDS = ("coast", "lift", "brake")
MOST_LENGTH = 500
MOST_SLOPE = 100
MOST_METRES = 4000
LEAST_BLOCKS = 2
MOST_BLOCKS = 12


class Layout:
    """A closed track of segments, divided into blocks that end with their brakes."""

    def __init__(self, segments):
        if not _are_segments(segments) or not _are_a_round(segments):
            raise InvalidLayout("the segments are no layout")
        self.segments = tuple(segments)
        self._metres = []
        self._heights = []
        self._begins = [0]
        self._brakes = []
        self._place_metres()

    def _place_metres(self):
        height = 0
        for kind, length, slope in self.segments:
            block = len(self._brakes)
            if kind == "brake":
                self._brakes.append(len(self._metres))
            for _ in range(length):
                self._metres.append((kind, slope, block))
                self._heights.append(height)
                height = height + slope
            if kind == "brake":
                self._begins.append(len(self._metres))

    def total(self):
        """The number of metres."""
        return len(self._metres)

    def blocks(self):
        """The number of blocks."""
        return len(self._brakes)

    def metre(self, number):
        """The kind, the slope and the block of a metre."""
        self._check_metre(number)
        return self._metres[number]

    def height(self, number):
        """How much higher the begin of a metre is than that of metre 0."""
        self._check_metre(number)
        return self._heights[number]

    def begin(self, block):
        """The first metre of a block."""
        self._check_block(block)
        return self._begins[block]

    def brake(self, block):
        """The first metre of the brake of a block."""
        self._check_block(block)
        return self._brakes[block]

    def end(self, block):
        """1 more than the last metre of a block."""
        self._check_block(block)
        return self._begins[block + 1]

    def _check_metre(self, number):
        if not 0 <= number < self.total():
            raise BadNumber("there is no such metre")

    def _check_block(self, block):
        if not 0 <= block < self.blocks():
            raise BadNumber("there is no such block")


def _are_segments(segments):
    for kind, length, slope in segments:
        if kind not in KINDS:
            return False
        if not 1 <= length <= MOST_LENGTH or abs(slope) > MOST_SLOPE:
            return False
    return True


def _are_a_round(segments):
    brakes = [kind for kind, length, slope in segments if kind == "brake"]
    if not LEAST_BLOCKS <= len(brakes) <= MOST_BLOCKS or segments[-1][0] != "brake":
        return False
    if sum([length for kind, length, slope in segments]) > MOST_METRES:
        return False
    return sum([length * slope for kind, length, slope in segments]) == 0


def format_layout(layout):
    """The text of a layout: one line for each segment."""
    return "\n".join([f"{kind} {length} {slope}" for kind, length, slope in layout.segments])


def parse_layout(text):
    """The layout that a text tells."""
    lines = text.split("\n")
    segments = read_lines(lines, 1, _read_segment)
    try:
        return Layout(segments)
    except InvalidLayout:
        raise InvalidText(len(lines)) from None


def _read_segment(line):
    words = line.split(" ")
    if len(words) != 3 or words[0] not in KINDS:
        return None
    length = read_number(words[1])
    slope = _read_slope(words[2])
    if length is None or slope is None:
        return None
    return (words[0], length, slope)


def _read_slope(word):
    if not word.startswith("-"):
        return read_number(word)
    steepness = read_number(word[1:])
    if steepness is None or steepness == 0:
        return None
    return -steepness
