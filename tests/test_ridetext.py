"""Tests of written rides, trains and plays (points 57 to 59)."""

import unittest
from itertools import permutations, product
from random import Random

from ridesamples import LARGE_RIDES, SMALL_RIDES, random_scans, rides
from textsamples import NO_NUMBERS, spaced_wrongly, with_word, wrong_line

from coastersafe.ride import Ride
from coastersafe.ridetext import format_play, format_ride, format_train, parse_play, parse_ride, parse_train
from coastersafe.train import Train

RIDE = "over 3\nway 1 2\nway 4 4\nway 10 99\ntrain 2\ntrain 0"
TRAIN = "train 3 friction 100 300 brake 200000 250000 lift 40000 drive 10000"


class RideTest(unittest.TestCase):
    def check(self, line, *lines):
        self.assertEqual(wrong_line(parse_ride, "\n".join(lines)), line, lines)

    def test_written_rides(self):
        self.assertEqual(format_ride(Ride([(1, 2), (4, 4), (10, 99)], 3, [2, 0])), RIDE)
        self.assertEqual(format_ride(Ride([(1, 1), (1, 1)], 20, [0])), "over 20\nway 1 1\nway 1 1\ntrain 0")

    def test_read_again(self):
        for ride in rides(SMALL_RIDES + LARGE_RIDES):
            again = parse_ride(format_ride(ride))
            self.assertIsInstance(again, Ride)
            self.assertEqual((again.ways, again.over, again.trains), (ride.ways, ride.over, ride.trains))

    def test_words_and_spaces(self):
        lines = RIDE.split("\n")
        for at, line in enumerate(lines):
            for other in spaced_wrongly(line):
                self.check(at + 1, *lines[:at], other, *lines[at + 1:])
            for place in range(1, len(line.split(" "))):
                for word in NO_NUMBERS:
                    self.check(at + 1, *lines[:at], with_word(line, place, word), *lines[at + 1:])
            for word in ("Over", "ways", "", "scan", "-"):
                self.check(at + 1, *lines[:at], with_word(line, 0, word), *lines[at + 1:])
            self.check(at + 1, *lines[:at], "", *lines[at:])
        self.check(7, *lines, "")
        self.check(1, "")
        self.check(1, "", "")

    def test_lines_left_out_doubled_and_exchanged(self):
        over, first, second, third, train, other = RIDE.split("\n")
        self.check(1, first, second, third, train, other)
        self.check(1, train, other)
        self.check(1, first, over, second, third, train)
        self.check(2, over, over, first, second, third, train)
        self.check(5, over, first, second, third, over, train)
        self.check(5, over, first, second, train, third, other)
        self.check(7, over, first, second, third, train, other, first)
        self.check(7, over, first, second, third, train, other, over)
        self.check(3, over, train, first, second, third)
        # Each line of these has its form, so the last line is told.
        self.check(1, over)
        self.check(2, over, first)
        self.check(4, over, first, second, third)
        self.check(3, over, train, other)
        self.check(3, over, first, train)
        self.check(7, over, first, second, third, train, other, train)
        self.assertEqual(parse_ride("\n".join([over, first, third, train.replace("2", "1")])).ways, ((1, 2), (10, 99)))

    def test_rides_that_are_not_valid(self):
        for lines in (
            ["over 0", "way 1 1", "way 1 1", "train 1"],
            ["over 21", "way 1 1", "way 1 1", "train 1"],
            ["over 999999999", "way 1 1", "way 1 1", "train 1"],
            ["over 1", "way 0 1", "way 1 1", "train 1"],
            ["over 1", "way 1 2", "way 3 2", "train 0"],
            ["over 1", "way 1 2", "way 3 100", "train 0"],
            ["over 1", "way 1 1", "way 1 1", "train 2"],
            ["over 1", "way 1 1", "way 1 1", "train 0", "train 1"],
            ["over 1", "way 1 1", "way 1 1", "way 1 1", "train 0", "train 0"],
            ["over 1"] + ["way 1 1"] * 13 + ["train 0"],
        ):
            self.check(len(lines), *lines)
        # A line without its form comes first.
        self.check(3, "over 0", "way 3 2", "way 1", "train 1")


class TrainTest(unittest.TestCase):
    def test_written_trains(self):
        self.assertEqual(format_train(Train(3, (100, 300), (200000, 250000), 40000, 10000)), TRAIN)
        text = "train 1 friction 0 0 brake 1 1 lift 1 drive 10000000"
        self.assertEqual(format_train(Train(1, (0, 0), (1, 1), 1, 10000000)), text)

    def test_read_again(self):
        random = Random(57)
        for _ in range(50):
            friction = sorted([random.randint(0, 100000) for _ in range(2)])
            brake = sorted([random.randint(1, 1000000) for _ in range(2)])
            energies = [random.randint(1, 10000000) for _ in range(2)]
            train = Train(random.randint(1, 100), tuple(friction), tuple(brake), *energies)
            again = parse_train(format_train(train))
            self.assertIsInstance(again, Train)
            for field in ("length", "friction", "brake", "lift", "drive"):
                self.assertEqual(getattr(again, field), getattr(train, field))

    def test_words_and_spaces(self):
        wrong = list(spaced_wrongly(TRAIN)) + ["", "\n", TRAIN + "\n", "\n" + TRAIN, TRAIN + "\n" + TRAIN, "train"]
        for at in range(12):
            if at in (1, 3, 4, 6, 7, 9, 11):
                wrong += [with_word(TRAIN, at, word) for word in NO_NUMBERS]
            else:
                wrong += [with_word(TRAIN, at, word) for word in ("", "0", "Train", "trains", "frictions", "-")]
            words = TRAIN.split(" ")
            wrong += [" ".join(words[:at] + words[at + 1:]), " ".join(words[:at] + words[at:at + 1] + words[at:])]
            wrong.append(" ".join(words[:at] + ["1"] + words[at:]))
        wrong.append("train 3 brake 200000 250000 friction 100 300 lift 40000 drive 10000")
        wrong.append("train 3 friction 100 300 brake 200000 250000 drive 10000 lift 40000")
        wrong.append(TRAIN.replace(" ", "\n"))
        for text in wrong:
            self.assertEqual(wrong_line(parse_train, text), 1, text)

    def test_trains_that_are_not_valid(self):
        for old, new in (
            ("train 3", "train 0"), ("train 3", "train 101"), ("100 300", "301 300"), ("100 300", "100 100001"),
            ("200000 250000", "0 250000"), ("200000 250000", "250001 250000"), ("250000", "1000001"),
            ("lift 40000", "lift 0"), ("lift 40000", "lift 10000001"), ("drive 10000", "drive 0"),
        ):
            self.assertEqual(wrong_line(parse_train, TRAIN.replace(old, new)), 1)


class ExamplesTest(unittest.TestCase):
    def test_the_examples(self):
        self.assertEqual(
            [
                parse_play("go late 1\n-\nfault brake 2 0 1", 2)[0],
                format_play([((0, 1, 1), (0, 0), (("present", 0, 1), 0))]),
            ],
            [((1, 0, 0), (0, 1), None), "stop open fault present 0 1 0"],
        )
        self.assertEqual(wrong_line(parse_ride, "over 1\nway 1 2\nway 3 2\ntrain 0"), 4)


class PlayTest(unittest.TestCase):
    def check(self, line, text, trains=3):
        self.assertEqual(wrong_line(parse_play, text, trains), line, text)

    def test_the_words_of_a_scan(self):
        nothing = (0, 0, 0)
        for scan, line in (
            ((nothing, (0, 0), None), "-"),
            (((1, 0, 0), (0, 0), None), "go"),
            (((0, 1, 0), (0, 0), None), "stop"),
            (((0, 0, 1), (0, 0), None), "open"),
            (((1, 1, 1), (1, 1), None), "go stop open late 0 1"),
            ((nothing, (0, 1), None), "late 1"),
            ((nothing, (1, 0), (("sensor", 0, 1), 0)), "late 0 fault sensor 0 1 0"),
            (((1, 0, 1), (0, 0), (("present", 0, 0), 1)), "go open fault present 0 0 1"),
            ((nothing, (0, 0), (("brake", 11, 1), 1)), "fault brake 11 1 1"),
        ):
            self.assertEqual(format_play([scan]), line)
            self.assertEqual(parse_play(line, 2), [scan])
            self.assertEqual(format_play([scan, scan]), line + "\n" + line)
            self.assertEqual(parse_play(f"-\n{line}\n-", 2), [(nothing, (0, 0), None), scan, (nothing, (0, 0), None)])

    def test_a_play_without_scans(self):
        self.assertEqual((format_play([]), parse_play("", 0), parse_play("", 3)), ("", [], []))
        first = parse_play("", 1)
        first.append(1)
        self.assertEqual(parse_play("", 1), [])

    def test_all_scans_of_one_kind(self):
        faults = [None] + [(part, 0) for part in (("sensor", 2, 1), ("present", 0, 1), ("brake", 2, 1))]
        scans = list(product(product((0, 1), repeat=3), product((0, 1), repeat=3), faults))
        text = format_play(scans)
        self.assertEqual(len(set(text.split("\n"))), len(scans))
        self.assertEqual(parse_play(text, 3), scans)

    def test_drawn_plays(self):
        random = Random(58)
        for ride in rides(SMALL_RIDES + LARGE_RIDES):
            part = random.choice(ride.parts())
            scans = random_scans(random, ride, 30, (part, random.randint(0, 1)), random.randint(0, 29), (5, 1, 2))
            self.assertEqual(parse_play(format_play(scans), len(ride.trains)), scans)

    def test_parts_of_any_numbers(self):
        for kind, block, channel, number in product(
            ("sensor", "present", "brake"), (0, 12, 999999999), (0, 2, 999999999), (0, 1)
        ):
            if kind == "present" and block != 0:
                continue
            scan = ((0, 0, 0), (0,), ((kind, block, channel), number))
            line = f"fault {kind} {block} {channel} {number}"
            self.assertEqual(format_play([scan]), line)
            self.assertEqual(parse_play(line, 1), [scan])

    def test_the_zero_of_present(self):
        for before in ("", "go ", "go stop open late 0 1 "):
            for block, channel, number in product((1, 2, 10, 999999999), (0, 1, 5), (0, 1)):
                line = f"{before}fault present {block} {channel} {number}"
                self.check(1, line)
                self.check(1, line + "\n?")
                self.check(3, f"fault present 0 1 1\nfault brake 1 0 0\n{line}\n?")
        for word in NO_NUMBERS:
            self.check(2, f"-\nfault present {word} 1 1")

    def test_faults_of_another_form(self):
        for line in (
            "fault", "fault sensor", "fault sensor 0", "fault sensor 0 1", "fault sensor 0 1 2", "fault present 1 0",
            "fault sensor 0 1 0 0", "fault bars 0 0 1", "fault 0 0 1", "fault Sensor 0 1 1", "fault fault sensor 0 1 1",
            "sensor 0 1 1", "fault sensor 0 1 1 fault sensor 0 1 1", "fault sensor 0 1 1 go", "fault -",
            "fault sensor 0 1 1 late 1", "late fault sensor 0 1 1", "fault sensor 0 1 1 -", "- fault sensor 0 1 1",
        ):
            self.check(1, line)
            self.check(3, f"go\n-\n{line}\n-")
        for at in (2, 3, 4):
            for word in NO_NUMBERS:
                self.check(2, "-\n" + with_word("fault brake 1 1 1", at, word))

    def test_buttons(self):
        buttons = ["go", "stop", "open"]
        for count in (2, 3):
            for words in permutations(buttons, count):
                is_written = list(words) == [word for word in buttons if word in words]
                self.check(None if is_written else 1, " ".join(words))
        for line in ("go go", "stop go", "Go", "GO", "halt", "go -", "- go", "- -", "go late", "0 0 0", "go,", "--"):
            self.check(2, f"-\n{line}")

    def test_late_trains(self):
        for line in ("late 0", "late 2", "late 0 1", "late 0 2", "late 1 2", "late 0 1 2", "open late 1"):
            self.check(None, line)
        for line in (
            "late", "late 3", "late 0 3", "late 999999999", "late 1 0", "late 2 1", "late 0 2 1", "late 0 0",
            "late 1 1 2", "late 0 late 1", "late late 0", "late 1 go", "0 late 1", "late -", "late 0,1", "late all",
        ):
            self.check(1, line)
            self.check(2, f"late 2\n{line}\n\n")
        for word in NO_NUMBERS:
            self.check(1, "late " + word)
            self.check(1, f"late {word} 2")
        self.check(1, "late 0", 0)
        self.check(1, "late 1", 1)

    def test_spaces_and_empty_lines(self):
        for text, line in (("\n", 1), ("-\n", 2), ("\n-", 1), ("go\n\ngo", 2), (" ", 1), (" -", 1), ("- ", 1)):
            self.check(line, text)
        for line in ("go stop late 0 2 fault brake 0 1 1", "late 1", "fault sensor 0 1 1"):
            for other in (" " + line, line + " ", line.replace(" ", "  ", 1), line.replace(" ", "\t", 1)):
                self.check(2, f"-\n{other}")

    def test_the_first_wrong_line(self):
        self.check(2, "go\nlate 3\nlate\n-")
        self.check(3, "go\nlate 2\nlate\nlate 3")


if __name__ == "__main__":
    unittest.main()
