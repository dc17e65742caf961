import unittest

from coastersafe.errors import BadNumber, InvalidLayout, InvalidText
from coastersafe.layout import Layout, format_layout, parse_layout

EXAMPLE = [("lift", 20, 30), ("coast", 10, -60), ("brake", 5, 0), ("coast", 4, 0), ("brake", 6, 0)]
THREE = [
    ("brake", 2, -100), ("lift", 1, 100), ("lift", 1, 50), ("coast", 3, 20), ("coast", 1, -11),
    ("brake", 1, 1), ("brake", 2, 0),
]
FLAT = [("coast", 10, 0), ("brake", 5, 0), ("coast", 4, 0), ("brake", 6, 0)]


def metres_of(segments):
    """The metres by their definition, one after the other."""
    metres = []
    block = 0
    for kind, length, slope in segments:
        metres.extend([(kind, slope, block)] * length)
        if kind == "brake":
            block += 1
    return metres


def flat_of(metres):
    """A valid flat layout with so many metres."""
    segments = [("coast", 500, 0)] * ((metres - 2) // 500)
    if (metres - 2) % 500:
        segments.append(("coast", (metres - 2) % 500, 0))
    return segments + [("brake", 1, 0), ("brake", 1, 0)]


class MetresTest(unittest.TestCase):
    def test_example_of_the_document(self):
        layout = Layout(EXAMPLE)
        found = [layout.total(), layout.blocks(), layout.metre(34), layout.height(25), layout.brake(1)]
        self.assertEqual(found, [45, 2, ("brake", 0, 0), 300, 39])

    def test_example_of_a_wrong_text(self):
        with self.assertRaises(InvalidText) as caught:
            parse_layout("coast 10 -5\nbrake 5 0\nbrake 05 10")
        self.assertEqual(caught.exception.line, 3)

    def test_every_metre(self):
        for segments in (EXAMPLE, FLAT, [*THREE, ("coast", 8, 0), ("brake", 9, 0)], flat_of(4000)):
            segments = self.closed(segments)
            layout = Layout(segments)
            metres = metres_of(segments)
            self.assertEqual(layout.total(), len(metres))
            self.assertEqual([layout.metre(number) for number in range(len(metres))], metres)
            for number in range(len(metres)):
                self.assertEqual(layout.height(number), sum([slope for _, slope, _ in metres[:number]]))

    def closed(self, segments):
        """The segments, with a rise or fall of single metres before the end, so that they are a round."""
        height = sum([length * slope for _, length, slope in segments])
        more = []
        while height != 0:
            step = max(-100, min(100, -height))
            more.append(("coast", 1, step))
            height += step
        return segments[:-1] + more + segments[-1:]

    def test_every_block(self):
        segments = self.closed(THREE)
        layout = Layout(segments)
        metres = metres_of(segments)
        self.assertEqual(layout.blocks(), 3)
        for block in range(3):
            numbers = [number for number in range(len(metres)) if metres[number][2] == block]
            brakes = [number for number in numbers if metres[number][0] == "brake"]
            self.assertEqual(layout.begin(block), numbers[0])
            self.assertEqual(layout.brake(block), brakes[0])
            self.assertEqual(layout.end(block), numbers[-1] + 1)

    def test_blocks_of_the_example(self):
        layout = Layout(EXAMPLE)
        found = [(layout.begin(block), layout.brake(block), layout.end(block)) for block in (0, 1)]
        self.assertEqual(found, [(0, 30, 35), (35, 39, 45)])

    def test_a_block_may_be_a_brake_alone(self):
        layout = Layout([("brake", 3, 0), ("brake", 4, 0)])
        found = [(layout.begin(block), layout.brake(block), layout.end(block)) for block in (0, 1)]
        self.assertEqual(found, [(0, 0, 3), (3, 3, 7)])

    def test_metres_that_there_are_not(self):
        layout = Layout(EXAMPLE)
        for number in (-1, -45, -46, 45, 46, 10 ** 20):
            self.assertRaises(BadNumber, layout.metre, number)
            self.assertRaises(BadNumber, layout.height, number)

    def test_blocks_that_there_are_not(self):
        layout = Layout(EXAMPLE)
        for block in (-1, -2, -3, 2, 3, 10 ** 20):
            self.assertRaises(BadNumber, layout.begin, block)
            self.assertRaises(BadNumber, layout.brake, block)
            self.assertRaises(BadNumber, layout.end, block)

    def test_the_list_is_copied(self):
        segments = list(FLAT)
        layout = Layout(segments)
        segments[0] = ("lift", 10, 0)
        segments.append(("brake", 1, 0))
        self.assertEqual(layout.segments, tuple(FLAT))
        self.assertEqual(layout.metre(0), ("coast", 0, 0))
        self.assertEqual(layout.blocks(), 2)

    def test_the_list_is_not_modified(self):
        segments = list(EXAMPLE)
        self.assertEqual(Layout(segments).segments, tuple(EXAMPLE))
        self.assertEqual(segments, EXAMPLE)


class RulesTest(unittest.TestCase):
    def assert_valid(self, segments):
        self.assertEqual(Layout(segments).segments, tuple(segments))

    def assert_invalid(self, segments):
        with self.assertRaises(InvalidLayout):
            Layout(segments)

    def test_kinds(self):
        for kind in ("coast", "lift", "brake"):
            self.assert_valid([(kind, 3, 0)] + FLAT)
        for kind in ("Coast", "brakes", "", "station", "coast "):
            self.assert_invalid([(kind, 3, 0)] + FLAT)

    def test_lengths(self):
        for length in (1, 2, 499, 500):
            self.assert_valid([("coast", length, 0)] + FLAT)
        for length in (0, -1, 501, 1000):
            self.assert_invalid([("coast", length, 0)] + FLAT)

    def test_lengths_of_the_last_segment(self):
        self.assert_valid(FLAT[:-1] + [("brake", 500, 0)])
        self.assert_invalid(FLAT[:-1] + [("brake", 501, 0)])
        self.assert_invalid(FLAT[:-1] + [("brake", 0, 0)])

    def test_slopes(self):
        for slope in (-100, -99, -1, 0, 1, 99, 100):
            self.assert_valid([("coast", 2, slope), ("lift", 2, -slope)] + FLAT)
        for slope in (-101, 101, 1000):
            self.assert_invalid([("coast", 2, slope), ("lift", 2, -slope)] + FLAT)
        # The slopes of other segments make up for one that is too steep.
        self.assert_invalid([("coast", 1, 101), ("coast", 1, -100), ("coast", 1, -1)] + FLAT)
        self.assert_invalid([("coast", 1, -101), ("coast", 1, 100), ("coast", 1, 1)] + FLAT)

    def test_the_sum_of_the_heights(self):
        self.assert_valid([("coast", 3, 20), ("coast", 6, -10)] + FLAT)
        for slope in (-1, 1):
            self.assert_invalid([("coast", 1, slope)] + FLAT)
        # The slopes alone sum up to 0 here.
        self.assert_invalid([("coast", 3, 10), ("coast", 6, -10)] + FLAT)

    def test_the_number_of_metres(self):
        self.assertEqual(Layout(flat_of(4000)).total(), 4000)
        self.assertEqual(Layout(flat_of(3999)).total(), 3999)
        self.assert_invalid(flat_of(4001))
        self.assert_invalid([("coast", 500, 0)] * 8 + FLAT)

    def test_the_last_segment(self):
        self.assert_invalid(FLAT + [("coast", 1, 0)])
        self.assert_invalid(FLAT + [("lift", 1, 0)])

    def test_the_number_of_brakes(self):
        brake = [("brake", 1, 0)]
        self.assert_invalid(brake)
        self.assert_invalid([("coast", 5, 0)] + brake)
        self.assert_valid(brake * 2)
        self.assert_valid(brake * 3)
        self.assertEqual(Layout(brake * 12).blocks(), 12)
        self.assert_invalid(brake * 13)
        self.assertEqual(Layout([("coast", 1, 0), ("brake", 1, 0)] * 12).blocks(), 12)
        self.assert_invalid([("coast", 1, 0), ("brake", 1, 0)] * 13)

    def test_no_segment_and_no_brake(self):
        self.assert_invalid([])
        self.assert_invalid([("coast", 5, 0), ("lift", 5, 0)])


class TextTest(unittest.TestCase):
    def assert_wrong(self, text, line):
        with self.assertRaises(InvalidText, msg=repr(text)) as caught:
            parse_layout(text)
        self.assertEqual(caught.exception.line, line, repr(text))

    def test_format(self):
        expected = "lift 20 30\ncoast 10 -60\nbrake 5 0\ncoast 4 0\nbrake 6 0"
        self.assertEqual(format_layout(Layout(EXAMPLE)), expected)

    def test_what_is_written_is_read_again(self):
        steep = [("brake", 1, 100), ("brake", 1, -100)]
        for segments in (EXAMPLE, FLAT, [("brake", 500, 0)] * 2, steep, flat_of(4000)):
            layout = parse_layout(format_layout(Layout(segments)))
            self.assertEqual(layout.segments, tuple(segments))

    def test_other_kinds(self):
        for kind in ("Coast", "station", "brakes", "", "BRAKE"):
            self.assert_wrong(f"{kind} 5 0\nbrake 5 0\nbrake 5 0", 1)
            self.assert_wrong(f"brake 5 0\n{kind} 5 0\nbrake 5 0", 2)

    def test_numbers_of_another_form(self):
        for word in ("05", "00", "+5", "-0", "--5", "-05", "- 5", "5-", "", "-", "x", "5.0", "0x5", "1_0", "5\t"):
            self.assert_wrong(f"brake 5 0\nbrake 5 {word}\nbrake 5 0", 2)
            self.assert_wrong(f"brake 5 0\nbrake {word} 0\nbrake 5 0", 2)

    def test_a_minus_at_a_length(self):
        self.assert_wrong("brake 5 0\ncoast -5 0\nbrake 5 0", 2)

    def test_nine_and_ten_digits(self):
        # Nine digits have the form, but the layout is not valid: then the last line is told.
        for line in ("coast 123456789 0", "coast 5 123456789", "coast 5 -123456789"):
            self.assert_wrong(f"{line}\nbrake 5 0\nbrake 5 0", 3)
        for line in ("coast 1234567890 0", "coast 5 1234567890", "coast 5 -1234567890"):
            self.assert_wrong(f"{line}\nbrake 5 0\nbrake 5 0", 1)

    def test_too_few_and_too_many_words(self):
        for line in ("brake 5", "brake", "brake 5 0 0", "brake 5 0 ", " brake 5 0", "brake  5 0", "brake 5  0"):
            self.assert_wrong(f"brake 5 0\n{line}\nbrake 5 0", 2)

    def test_other_spaces(self):
        for line in ("brake\t5 0", "brake 5 0\r", "brake\n5 0", "brake 5\n0"):
            self.assert_wrong(f"brake 5 0\n{line}\nbrake 5 0", 2)

    def test_empty_lines(self):
        self.assert_wrong("", 1)
        self.assert_wrong("\n", 1)
        self.assert_wrong("\nbrake 5 0\nbrake 5 0", 1)
        self.assert_wrong("brake 5 0\n\nbrake 5 0", 2)
        self.assert_wrong("brake 5 0\nbrake 5 0\n", 3)

    def test_the_first_wrong_line(self):
        self.assert_wrong("brake 5 0\nbrake 05 0\nbrakes 5 0", 2)
        self.assert_wrong("brake 0 0\nbrake 05 0\nbrakes 5 0", 2)

    def test_well_written_layouts_that_are_not_valid(self):
        self.assert_wrong("brake 5 0", 1)
        self.assert_wrong("brake 0 0\nbrake 5 0\nbrake 5 0", 3)
        self.assert_wrong("coast 501 0\nbrake 5 0\nbrake 5 0", 3)
        self.assert_wrong("coast 5 101\nbrake 5 0\nbrake 5 0", 3)
        self.assert_wrong("coast 5 1\nbrake 5 0\nbrake 5 0\ncoast 5 -1", 4)
        self.assert_wrong("\n".join(["brake 1 0"] * 13), 13)


if __name__ == "__main__":
    unittest.main()
