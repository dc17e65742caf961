"""Tests of written verdicts of the check of a ride (points 74 and 75)."""

import unittest
from random import Random

from ridesamples import GO, NOTHING, OPEN, SMALL_RIDES, Explorer, changed, logic_for, random_scans, reckless, rides
from textsamples import with_word, wrong_line

from coastersafe.control import scanned, standard_logic
from coastersafe.errors import InvalidText, NotFitting
from coastersafe.logic import parse_logic
from coastersafe.ride import Ride, dangers
from coastersafe.ridecheck import all_faults, check_ride, is_safe_list
from coastersafe.rideverdicts import accepts_ride, format_ride_verdict, parse_ride_verdict

RIDE = Ride([(1, 2), (1, 1), (2, 3)], 2, [2, 0])
# Its memory has one number more than there are calipers and bars.
LOGIC = logic_for(3, bits=["x"])
SHORT = Ride([(1, 1), (1, 1)], 1, [1])
SCENE = "scene held 2 0 way 0 1 bars 0 fault - memory 0 0 0 0 0 0 0 1"
BROKEN = "scene held 2 0 over 1 1 bars 1 fault brake 2 0 1 memory 0 0 1 0 0 0 1 1"


def opening(bits):
    """A logic for two blocks that opens the bars at `open`, and nothing else but calipers that some bits tell."""
    return logic_for(2, ["bars := open"] + [f"{name} := {value}" for name, value in bits])


def line_of(text, ride=RIDE, logic=LOGIC):
    """The line of the error that reading a verdict raises, or None."""
    return wrong_line(parse_ride_verdict, ride, logic, text)


class FormTest(unittest.TestCase):
    def check(self, verdict, text, ride=RIDE, logic=LOGIC):
        self.assertEqual(format_ride_verdict(verdict), text)
        self.assertEqual(parse_ride_verdict(ride, logic, text), verdict)

    def test_scenes(self):
        memory = (0, 0, 0, 0, 0, 0, 0, 1)
        scene = (((("held", 2, 0), ("way", 0, 1)), 0, None), memory)
        self.check(("safe", [scene]), "safe\n" + SCENE)
        memory = (0, 0, 1, 0, 0, 0, 1, 1)
        other = (((("held", 2, 0), ("over", 1, 1)), 1, (("brake", 2, 0), 1)), memory)
        self.check(("safe", [other, scene, other]), f"safe\n{BROKEN}\n{SCENE}\n{BROKEN}")

    def test_faults_of_each_kind(self):
        for part in (("sensor", 1, 0), ("sensor", 2, 1), ("present", 0, 0), ("present", 0, 1), ("brake", 0, 1)):
            for number in (0, 1):
                scene = (((("held", 2, 0), ("over", 1, 1)), 1, (part, number)), (0, 0, 1, 0, 0, 0, 1, 1))
                kind, block, channel = part
                line = BROKEN.replace("brake 2 0 1", f"{kind} {block} {channel} {number}")
                self.check(("safe", [scene]), "safe\n" + line)

    def test_choices(self):
        run = [
            (NOTHING, (0, 0), None), (GO, (0, 1), None), ((1, 1, 1), (1, 1), (("present", 0, 1), 0)),
            (OPEN, (1, 0), (("sensor", 2, 0), 1)), (NOTHING, (0, 0), (("brake", 0, 0), 1)),
        ]
        lines = ["-", "go late 1", "go stop open late 0 1 fault present 0 1 0", "open late 0 fault sensor 2 0 1"]
        self.check(("unsafe", run), "\n".join(["unsafe"] + lines + ["fault brake 0 0 1"]))

    def test_nothing_behind_the_word(self):
        for word in ("safe", "unsafe"):
            self.check((word, []), word)

    def test_numbers_that_are_not_there(self):
        line = with_word(with_word(with_word(SCENE, 2, "999999999"), 3, "17"), 15, "77")
        for kind in ("sensor", "present", "brake"):
            text = line.replace("fault -", f"fault {kind} 12 999999999 0").replace("held", "over")
            verdict = parse_ride_verdict(RIDE, LOGIC, "safe\n" + text)
            state, memory = verdict[1][0]
            self.assertEqual(state, ((("over", 999999999, 17), ("way", 0, 1)), 0, ((kind, 12, 999999999), 0)))
            self.check(verdict, "safe\n" + text)
        self.check(("unsafe", [(NOTHING, (0, 0), (("brake", 12, 7), 1))]), "unsafe\nfault brake 12 7 1")

    def test_another_number_of_trains(self):
        scene = (((("way", 1, 0),), 1, None), (1, 0, 0, 0, 1))
        self.check(("safe", [scene]), "safe\nscene way 1 0 bars 1 fault - memory 1 0 0 0 1", SHORT, logic_for(2))

    def test_verdicts_of_checks(self):
        for ride in rides(SMALL_RIDES[:5]):
            for faults in ([], all_faults(ride)[::5]):
                for logic in (standard_logic(ride), reckless(len(ride.ways))):
                    verdict = check_ride(ride, logic, faults)
                    text = format_ride_verdict(verdict)
                    self.assertEqual(parse_ride_verdict(ride, logic, text), verdict)
                    self.assertIs(accepts_ride(ride, logic, faults, text), True)


class WrongLinesTest(unittest.TestCase):
    def test_the_word(self):
        for text, line in (
            ("", 1), ("\n", 1), (" safe", 1), ("safe ", 1), ("Safe", 1), ("always", 1), ("broken", 1), (SCENE, 1), ("-", 1),
            ("safe 1", 1), ("unsafe -", 1), ("safe\n", 2), ("unsafe\n", 2), ("unsafe\n\n-", 2), ("\nsafe", 1),
        ):
            self.assertEqual(line_of(text), line, text)

    def check(self, line):
        self.assertEqual(line_of("safe\n" + line), 2, line)
        self.assertEqual(line_of(f"safe\n{SCENE}\n{BROKEN}\n{line}\n{SCENE}\n"), 4, line)

    def test_scenes(self):
        for line in (SCENE, BROKEN):
            words = line.split(" ")
            for other in (" " + line, line + " ", line.replace(" ", "  ", 1), line.replace(" ", "\t", 1), line.upper()):
                self.check(other)
            for at in range(len(words)):
                self.check(" ".join(words[:at] + words[at + 1:]))
                self.check(" ".join(words[:at] + words[at:at + 1] + words[at:]))
                self.check(" ".join(words[:at] + ["0"] + words[at:]))
                for word in ("", "x", "00", "01", "-1", "+1", "1234567890", "-0", "1.0", "scenes"):
                    self.check(with_word(line, at, word))
        self.check("")
        self.check("-")
        self.check("safe")

    def test_kinds_and_numbers(self):
        for kind in ("on", "Way", "sensor", "brake", "train"):
            self.check(with_word(SCENE, 1, kind))
            self.check(with_word(SCENE, 4, kind))
        for kind in ("bars", "way", "Sensor", "-"):
            self.check(BROKEN.replace("brake", kind))
        self.check(SCENE.replace("bars 0", "bars 2"))
        self.check(BROKEN.replace("brake 2 0 1", "brake 2 0 2"))
        self.check(BROKEN.replace("fault brake 2 0 1", "fault -1"))
        self.check(SCENE.replace("fault -", "fault none"))
        self.check(SCENE.replace("fault - ", ""))

    def test_scenes_of_another_ride_or_logic(self):
        text = "safe\nscene held 1 0 bars 0 fault - memory 0 0 0 0 0"
        self.assertIsNone(line_of(text, SHORT, logic_for(2)))
        self.assertEqual(line_of(text, RIDE, logic_for(2)), 2)
        self.assertEqual(line_of(text, SHORT, logic_for(2, bits=["x"])), 2)
        self.assertEqual(line_of("safe\n" + SCENE, SHORT, LOGIC), 2)

    def test_choices(self):
        for line in (
            "", " ", "late 2", "late 1 0", "late 0 0", "late", "stop go", "go go", "go -", "go ", " go", "go  stop",
            "fault brake 0 1", "fault brake 0 1 2", "fault brake 0 01 1", "fault lamp 0 1 1", "fault bars 0 0 0",
            "fault brake 0 0 1 go", "late 0 1 2", "late 00", "late 1234567890", SCENE, "unsafe", "halt",
        ):
            self.assertEqual(line_of("unsafe\n" + line), 2, line)
            self.assertEqual(line_of(f"unsafe\n-\ngo late 0 1\n{line}\n-\n"), 4, line)
        self.assertEqual(line_of("unsafe\nlate 1", SHORT, logic_for(2)), 2)

    def test_present_in_choices_and_in_scenes(self):
        # A choice has the form of a scan of a play, with a 0 behind the word; a scene has a form of its own.
        for block in (1, 12, 999999999):
            self.assertEqual(line_of(f"unsafe\ngo late 0\nfault present {block} 1 0\n?"), 3)
            self.assertIsNone(line_of("safe\n" + SCENE.replace("fault -", f"fault present {block} 1 0")))
        self.assertIsNone(line_of("unsafe\ngo late 0\nfault present 0 1 0"))


class AcceptsTest(unittest.TestCase):
    def test_the_example(self):
        logic = logic_for(2, ["bars := open"])
        text = "safe\nscene held 1 0 bars 0 fault - memory 0 0 0 0 0"
        self.assertIs(accepts_ride(Ride([(1, 1), (1, 1)], 1, [0]), logic, [], "unsafe\nopen"), True)
        self.assertIs(accepts_ride(SHORT, logic, [], text), False)

    def test_scenes_left_out_put_in_and_doubled(self):
        for ride in rides(SMALL_RIDES[:5]):
            logic = standard_logic(ride)
            faults = all_faults(ride)[1::7]
            verdict, scenes = check_ride(ride, logic, faults)
            random = Random(75)
            for at in [0, len(scenes) - 1] + random.sample(range(len(scenes)), 5):
                rest = scenes[:at] + scenes[at + 1:]
                self.assertIs(accepts_ride(ride, logic, faults, format_ride_verdict((verdict, rest))), False)
                text = format_ride_verdict((verdict, scenes[at:] + scenes[:at] + [scenes[at]]))
                self.assertIs(accepts_ride(ride, logic, faults, text), True)
            self.assertIs(accepts_ride(ride, logic, faults, "safe"), False)

    def test_scenes_that_are_none(self):
        ride = Ride([(1, 3), (1, 1)], 2, [1])
        closed = logic_for(2)
        scenes = check_ride(ride, closed, [])[1]
        (state, memory), = scenes
        held, bars, fault = state
        self.assertIs(accepts_ride(ride, closed, [], format_ride_verdict(("safe", scenes))), True)
        for other in (
            (((("held", 0, 0),), 0, None), memory),
            (((("held", 1, 0),), 0, (("brake", 0, 1), 0)), memory),
            (((("held", 1, 0),), 0, (("sensor", 1, 0), 1)), memory),
        ):
            # Nothing leads to them, but they lead only to themselves.
            text = format_ride_verdict(("safe", scenes + [other]))
            self.assertIs(accepts_ride(ride, closed, [], text), True, text)
        for trains in (
            ("held", 1, 1), ("held", 2, 0), ("way", 0, 3), ("way", 1, 1), ("way", 2, 0), ("way", 999, 0),
            ("over", 0, 2), ("over", 2, 0), ("over", 1, 999), ("held", 0, 999999999),
        ):
            for more in (fault, (("brake", 0, 0), 1)):
                strange = scenes + [(((trains,), bars, more), memory)]
                text = format_ride_verdict(("safe", strange))
                self.assertIs(accepts_ride(ride, closed, [], text), False, text)
                self.assertIs(is_safe_list(ride, closed, [], strange), False, text)
        for part in (("brake", 2, 0), ("brake", 0, 2), ("present", 1, 0), ("present", 0, 2), ("sensor", 9, 9)):
            text = format_ride_verdict(("safe", scenes + [((held, bars, (part, 0)), memory)]))
            self.assertIs(accepts_ride(ride, closed, [], text), False, text)
        for other in ((2, 0, 0, 0, 0), (0, 0, 0, 0, 7)):
            text = format_ride_verdict(("safe", scenes + [(state, other)]))
            self.assertIs(accepts_ride(ride, closed, [], text), False, text)
        self.assertIs(accepts_ride(ride, opening([]), [], format_ride_verdict(("safe", scenes))), False)

    def test_scenes_with_a_danger(self):
        ride = Ride([(1, 1), (1, 1)], 1, [0])
        logic = opening([])
        scenes = [(state, memory) for state, memory in Explorer(ride, logic).reached()]
        self.assertIs(accepts_ride(ride, logic, [], format_ride_verdict(("safe", scenes))), False)
        station = Explorer(SHORT, logic).reached()
        self.assertIs(accepts_ride(SHORT, logic, [], format_ride_verdict(("safe", station))), True)

    def test_other_faults_and_another_ride(self):
        ride = rides(SMALL_RIDES)[0]
        logic = standard_logic(ride)
        text = format_ride_verdict(check_ride(ride, logic, []))
        self.assertIs(accepts_ride(ride, logic, [], text), True)
        self.assertIs(accepts_ride(ride, logic, [(("brake", 0, 1), 1)], text), False)
        self.assertIs(accepts_ride(Ride([(1, 1), (1, 2)], 1, [1]), logic, [], text), False)
        many = format_ride_verdict(check_ride(ride, logic, all_faults(ride)))
        self.assertIs(accepts_ride(ride, logic, all_faults(ride)[3:5], many), True)
        self.assertIs(accepts_ride(ride, changed(logic, ("bars := open and pa and pb", "bars := open")), [], text), False)

    def test_runs_cut_and_longer(self):
        seen = 0
        for ride in rides(SMALL_RIDES):
            blocks = len(ride.ways)
            for faults in ([], [(("brake", blocks - 1, 0), 1), (("present", 0, 1), 1)]):
                for logic in (reckless(blocks), opening_all(blocks), bars_later(blocks)):
                    word, run = check_ride(ride, logic, faults)
                    if word == "unsafe":
                        seen += len(run) > 1
                        self.check_run(ride, logic, faults, run)
        self.assertGreater(seen, 5)

    def check_run(self, ride, logic, faults, run):
        none = (0,) * len(ride.trains)
        self.assertIs(accepts_ride(ride, logic, faults, format_ride_verdict(("unsafe", run))), True)
        for count in range(len(run)):
            text = format_ride_verdict(("unsafe", run[:count]))
            self.assertIs(accepts_ride(ride, logic, faults, text), False, text)
        for more in ((GO, none, None), (NOTHING, none, None), run[-1]):
            text = format_ride_verdict(("unsafe", run + [more]))
            self.assertIs(accepts_ride(ride, logic, faults, text), False, text)
        # At the beginning all trains are held, so none has a choice.
        text = format_ride_verdict(("unsafe", [(run[0][0], (1,) * len(none), run[0][2])] + run[1:]))
        self.assertIs(accepts_ride(ride, logic, faults, text), False, text)
        strange = (("sensor", 0, 0), 1)
        text = format_ride_verdict(("unsafe", [(run[0][0], run[0][1], strange)] + run[1:]))
        self.assertIs(accepts_ride(ride, logic, faults, text), False, text)

    def test_choices_of_trains(self):
        # The train may pass for one scan or two, and has its way for one, two or three.
        ride = Ride([(1, 3), (1, 1)], 2, [1])
        logic = opening([("b1a", "go"), ("b1b", "go")])
        for lines, expected in (
            (["go", "open"], True), (["go", "late 0", "open"], True), (["go", "late 0", "open late 0"], False),
            (["go", "late 0", "-", "late 0", "late 0", "open"], True),
            (["go", "late 0", "-", "late 0", "late 0", "open late 0"], False),
            (["go", "late 0", "-", "late 0", "-", "open"], True), (["go", "-", "-", "open"], True),
            (["go", "-", "-", "open late 0"], False), (["late 0", "go", "open"], False), (["go late 0", "open"], False),
            (["open", "go", "open"], True), (["go", "open", "-"], False), (["go"], False),
        ):
            text = "\n".join(["unsafe"] + lines)
            self.assertIs(accepts_ride(ride, logic, [], text), expected, text)

    def test_choices_of_faults(self):
        ride = Ride([(1, 1), (1, 1)], 1, [1])
        logic = opening([("b1a", "go"), ("b1b", "0")])
        fault = (("brake", 1, 1), 1)
        other = (("sensor", 0, 0), 0)
        for lines, faults, expected in (
            (["go fault brake 1 1 1", "open"], [fault], True),
            (["go fault brake 1 1 1", "open"], [other, fault], True),
            (["go fault brake 1 1 1", "open"], [other], False),
            (["go fault brake 1 1 1", "open"], [], False),
            (["fault brake 1 1 1", "go", "open"], [fault], True),
            (["fault brake 1 1 1", "go fault sensor 0 0 0", "open"], [fault, other], False),
            (["fault brake 1 1 1", "go fault brake 1 1 1", "open"], [fault, other], False),
            (["fault sensor 0 0 0", "go", "open"], [fault, other], False),
            (["go fault brake 1 1 0", "open"], [fault], False),
            (["go", "open"], [fault], False),
        ):
            text = "\n".join(["unsafe"] + lines)
            self.assertIs(accepts_ride(ride, logic, faults, text), expected, (text, faults))

    def test_drawn_runs(self):
        random = Random(76)
        answers = {True: 0, False: 0}
        ride = Ride([(1, 2), (1, 1), (1, 1)], 2, [2, 0])
        logic = opening_all(3)
        for _ in range(300):
            scans = random_scans(random, ride, random.randint(1, 5), weights=(5, 0, 3))
            explorer = Explorer(ride, logic)
            scene = explorer.first
            expected = True
            for at, scan in enumerate(scans):
                choices = [choice for choice, _ in explorer.edges(scene, [])]
                expected = expected and scan in choices
                scene = scanned(ride, logic, *scene, *scan)
                expected = expected and (dangers(ride, scene[0]) != []) == (at == len(scans) - 1)
            self.assertIs(accepts_ride(ride, logic, [], format_ride_verdict(("unsafe", scans))), expected)
            answers[expected] += 1
        self.assertGreater(min(answers.values()), 10)


def opening_all(blocks):
    """A logic that opens the station at `go`, and the bars at `open` only if the sensors of the station allow it."""
    statements = [f"b{blocks - 1}{letter} := go" for letter in "ab"]
    return logic_for(blocks, statements + ["bars := open and ( pa or pb )"])


def bars_later(blocks):
    """A logic that opens all brakes at `go`, and the bars one scan after `open`."""
    statements = [f"b{block}{letter} := go" for block in range(blocks) for letter in "ab"]
    return logic_for(blocks, statements + ["bars := x", "x := open"], ["x"])


class ErrorsTest(unittest.TestCase):
    def test_what_does_not_fit_comes_first(self):
        logic = logic_for(2)
        for text in ("unsafe\nopen", "wrong", "safe\n" + SCENE):
            for other in (parse_logic("input a\nbit x 0"), logic_for(3)):
                with self.assertRaises(NotFitting):
                    accepts_ride(SHORT, other, [], text)
            for part in (("brake", 2, 0), ("sensor", 0, 2), ("present", 1, 0), ("bars", 0, 0)):
                with self.assertRaises(NotFitting):
                    accepts_ride(SHORT, logic, [(("brake", 0, 0), 1), (part, 0)], text)

    def test_lines(self):
        for text, line in (
            ("wrong", 1), ("unsafe\n-\nlate 1", 3), ("safe\n" + SCENE, 2), ("", 1),
            ("unsafe\n-\nfault present 1 0 1", 3),
        ):
            with self.assertRaises(InvalidText) as caught:
                accepts_ride(SHORT, logic_for(2), all_faults(SHORT), text)
            self.assertEqual(caught.exception.line, line)


if __name__ == "__main__":
    unittest.main()
