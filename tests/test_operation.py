import unittest
from random import Random

from coastersafe.control import play, scanned, standard_logic
from coastersafe.errors import NotFitting
from coastersafe.logic import parse_logic
from coastersafe.operation import laps, operate, shares
from coastersafe.ride import Ride, dangers, is_at_rest
from coastersafe.ridecheck import all_faults
from ridesamples import GO, LARGE_RIDES, SMALL_RIDES, copied, logic_for, random_scans, reckless, rides

EXAMPLE = "scan go\nscan\nrest\nfault brake 9 0 1\nscan late\nscan stop"


def told_state(ride, state):
    places = ["held " + str(t[1]) if t[0] == "held" else " ".join([t[0], str(t[1]), str(t[2])]) for t in state[0]]
    word = "danger" if dangers(ride, state) else "at"
    return f"{word} {', '.join(places)}; bars {'open' if state[1] else 'closed'}"


def fault_line(fault):
    (kind, block, channel), number = fault
    if kind == "present":
        return f"fault present {channel} {number}"
    return f"fault {kind} {block} {channel} {number}"


class OperateTest(unittest.TestCase):
    def setUp(self):
        self.ride = Ride([(1, 2), (1, 1)], 1, [1])
        self.logic = standard_logic(self.ride)

    def replies(self, *lines):
        return operate(self.ride, self.logic, "\n".join(lines))

    def test_example_of_the_document(self):
        self.assertEqual(operate(self.ride, self.logic, EXAMPLE), [
            "at over 1 0; bars closed", "at way 0 0; bars closed", "moving", "bad line", "at way 0 1; bars closed",
            "at held 0; bars closed",
        ])

    def test_buttons(self):
        closed = "at held 1; bars closed"
        self.assertEqual(self.replies("scan", "scan open", "scan open", "scan"), [
            closed, "at held 1; bars open", "at held 1; bars open", closed,
        ])
        self.assertEqual(self.replies("scan go open", "scan open go")[0], "at held 1; bars open")
        self.assertEqual(self.replies("scan stop", "scan go", "scan go"), [closed] * 3)
        self.assertEqual(self.replies("scan go stop", "scan go"), [closed] * 2)
        self.assertEqual(self.replies("scan late go", "scan go late")[1], "at way 0 0; bars closed")

    def test_words_in_any_order(self):
        for line in ("scan go stop open late", "scan late open stop go", "scan stop late go open"):
            self.assertEqual(self.replies(line), ["at held 1; bars open"])

    def test_early_and_late_trains(self):
        self.ride = Ride([(1, 3), (1, 1)], 2, [1])
        self.assertEqual(self.replies(*["scan go"] * 3), [
            "at over 1 0; bars closed", "at way 0 0; bars closed", "at held 0; bars closed",
        ])
        self.assertEqual(self.replies(*["scan go late"] * 6), [
            "at over 1 0; bars closed", "at over 1 1; bars closed", "at way 0 0; bars closed",
            "at way 0 1; bars closed", "at way 0 2; bars closed", "at held 0; bars closed",
        ])

    def test_several_trains(self):
        self.ride = Ride([(1, 1)] * 3, 1, [2, 1])
        self.logic = standard_logic(self.ride)
        self.assertEqual(self.replies("scan go", "scan", "scan")[:2], [
            "at over 2 0, held 1; bars closed", "at way 0 0, held 1; bars closed",
        ])

    def test_dangers(self):
        self.ride = Ride([(1, 1)] * 3, 1, [0, 1])
        self.logic = reckless(3)
        self.assertEqual(self.replies("scan open", "scan go", "rest"), [
            "danger held 0, held 1; bars open", "danger over 0 0, over 1 0; bars closed", "moving",
        ])
        self.ride = Ride([(1, 1)] * 2, 1, [1])
        self.logic = reckless(2)
        self.assertEqual(self.replies("scan open", "scan open go", "scan"), [
            "at held 1; bars open", "danger over 1 0; bars open", "at way 0 0; bars closed",
        ])

    def test_rest(self):
        self.assertEqual(self.replies("rest", "scan go", "rest", "scan", "rest", "scan", "rest")[::2], [
            "rest", "moving", "moving", "rest",
        ])

    def test_memory(self):
        lines = [f"input {name}" for name in self.logic.inputs] + [f"bit {name} 0" for name, _ in logic_for(2).bits]
        self.logic = parse_logic("\n".join(lines + ["timer t 3", "bit z 1", "t counts go", "z := t"]))
        self.assertEqual(self.replies("memory t", "memory z", "memory bars", "scan go", "memory t", "memory z"), [
            "t 0", "z 1", "bars 0", "at held 1; bars closed", "t 1", "z 0",
        ])
        found = self.replies(*["scan go", "scan go", "memory t", "scan go", "scan go", "memory t", "memory z"])
        self.assertEqual([found[2], found[5], found[6]], ["t 2", "t 3", "z 1"])
        for line in ("memory go", "memory s0a", "memory q", "memory", "memory ", "memory t z", "memory  t", "Memory t"):
            self.assertEqual(self.replies(line), ["bad line"], line)

    def test_faults_come_in_the_next_scan(self):
        self.assertEqual(self.replies("fault brake 1 0 0", "scan go", "scan go"), [
            "fault noted", "at held 1; bars closed", "at held 1; bars closed",
        ])
        # The block before the sensor that always tells 1 seems full from then on, so the train stays where it is.
        found = self.replies("scan go", "fault sensor 1 1 1", "scan", "scan", "memory b1a", "scan", "scan go")
        self.assertEqual(found[1:], [
            "fault noted", "at way 0 0; bars closed", "at held 0; bars closed", "b1a 0", "at held 0; bars closed",
            "at held 0; bars closed",
        ])
        # A sensor that fails in a move is told in the next scan only.
        self.assertEqual(self.replies("fault present 0 0", "scan open", "scan open"), [
            "fault noted", "at held 1; bars open", "at held 1; bars closed",
        ])

    def test_faults_that_are_refused(self):
        self.assertEqual(self.replies("fault present 0 1", "fault present 0 1", "rest", "fault brake 0 1 1"), [
            "fault noted", "fault refused", "rest", "fault refused",
        ])
        found = self.replies("fault present 1 0", "scan", "fault present 1 0", "scan", "fault sensor 0 0 0", "scan")
        self.assertEqual(found[::2], ["fault noted", "fault refused", "fault refused"])
        self.assertEqual(self.replies("fault present 1 0", "fault present 2 0", "scan", "fault brake 2 0 0"), [
            "fault noted", "bad line", "at held 1; bars closed", "bad line",
        ])

    def test_all_parts(self):
        for fault in all_faults(self.ride):
            self.assertEqual(self.replies(fault_line(fault)), ["fault noted"])
        for line in (
            "fault sensor 2 0 0", "fault sensor 0 2 0", "fault sensor 0 0 2", "fault sensor 12 0 0",
            "fault present 2 0", "fault present 0 2", "fault present 0 0 1", "fault present 1", "fault present",
            "fault brake 2 0 0", "fault brake 0 2 0", "fault brake 0 0 2", "fault brake 0 0", "fault brake 0 0 0 0",
            "fault sensor 0 0", "fault bars 0 0 0", "fault", "fault ", "fault 0", "fault sensor", "fault sensor a 0 0",
            "fault sensor 00 0 0", "fault sensor 0 01 0", "fault sensor 0 0 01", "fault sensor -1 0 0",
            "fault sensor 0 -0 0", "fault sensor 0 0 +1", "fault  sensor 0 0 0", "fault sensor  0 0 0",
            "fault sensor 0 0 0 ", " fault sensor 0 0 0", "fault sensor 1000000000 0 0", "fault sensor 0000000000 0 0",
            "fault sensor 0 0 0000000000", "fault brake 999999999 0 0", "Fault sensor 0 0 0", "fault Sensor 0 0 0",
        ):
            self.assertEqual(self.replies(line, "fault present 0 0"), ["bad line", "fault noted"], line)

    def test_bad_lines(self):
        for line in (
            "", " ", "scans", "Scan", "SCAN", " scan", "scan ", "scan  go", "scan go ", "scan go go", "scan late late",
            "scan go late go", "scan scan", "scan 1", "scan go,stop", "scan closed", "scan Go", "go", "late", "scango",
            "rest ", " rest", "rest rest", "rest go", "Rest", "moving", "at", "help", "memory bars ", "memory Bars",
        ):
            found = self.replies("scan", line, "scan open", line, "rest")
            self.assertEqual(found, ["at held 1; bars closed", "bad line", "at held 1; bars open", "bad line", "rest"], line)

    def test_texts_of_empty_lines(self):
        self.assertEqual(operate(self.ride, self.logic, ""), ["bad line"])
        self.assertEqual(operate(self.ride, self.logic, "\n"), ["bad line"] * 2)
        self.assertEqual(operate(self.ride, self.logic, "rest\n"), ["rest", "bad line"])

    def test_bad_lines_change_nothing(self):
        found = self.replies("fault brake 1 0 0", "fault brake 1 0 2", "scan go stop go", "scan go", "scan go")
        self.assertEqual(found[3:], ["at held 1; bars closed"] * 2)
        self.assertEqual(self.replies("scan stop stop", "scan go")[1], "at over 1 0; bars closed")

    def test_against_scans(self):
        random = Random(411)
        for ride in rides(SMALL_RIDES + LARGE_RIDES):
            logic = standard_logic(ride)
            lines, expected = [], []
            state, memory = ride.first(), logic.first()
            fault = random.choice(all_faults(ride))
            for number in range(60):
                late = random.randint(0, 1)
                buttons = tuple([int(random.random() < chance) for chance in (0.9, 0.01, 0.1)])
                words = [word for word, on in zip(["go", "stop", "open", "late"], buttons + (late,)) if on]
                random.shuffle(words)
                if number == 20:
                    lines.append(fault_line(fault))
                    expected.append("fault noted")
                lines.append(" ".join(["scan"] + words))
                lates = (late,) * len(ride.trains)
                state, memory = scanned(ride, logic, state, memory, buttons, lates, fault if number == 20 else None)
                expected.append(told_state(ride, state))
                lines.append("rest")
                expected.append("rest" if is_at_rest(state) else "moving")
                name = random.choice(logic.order)
                lines.append("memory " + name)
                expected.append(f"{name} {logic.value(memory, name)}")
            self.assertEqual(operate(ride, logic, "\n".join(lines)), expected)

    def test_not_fitting(self):
        for logic in (logic_for(3), copied(self.logic, inputs=self.logic.inputs[:-1])):
            for text in ("", "rest", "scan go"):
                with self.assertRaises(NotFitting):
                    operate(self.ride, logic, text)

    def test_many_lines(self):
        self.assertEqual(len(self.replies(*["scan go"] * 3000)), 3000)


class LapsTest(unittest.TestCase):
    def states(self, *trains):
        return [((train,), 0, None) for train in trains]

    def test_the_beginning_does_not_count(self):
        ride = Ride([(1, 1), (1, 1)], 1, [1])
        held, over, way = ("held", 1, 0), ("over", 1, 0), ("way", 1, 0)
        self.assertEqual(laps(ride, []), [0])
        self.assertEqual(laps(ride, self.states(held, held)), [0])
        self.assertEqual(laps(ride, self.states(over, ("held", 0, 0), ("over", 0, 0), way)), [0])
        self.assertEqual(laps(ride, self.states(held, over, ("held", 0, 0), way, held, held)), [1])
        self.assertEqual(laps(ride, self.states(over, way, held, held, over, way, held)), [2])

    def test_arriving_in_the_first_scan(self):
        ride = Ride([(1, 1), (1, 1)], 1, [0])
        self.assertEqual(laps(ride, self.states(("held", 1, 0), ("over", 1, 0))), [1])

    def test_several_trains(self):
        ride = Ride([(1, 1)] * 3, 1, [2, 0, 1][:2])
        states = [
            ((("over", 2, 0), ("held", 0, 0)), 0, None),
            ((("way", 0, 0), ("way", 2, 0)), 0, None),
            ((("held", 0, 0), ("held", 2, 0)), 1, None),
            ((("held", 2, 0), ("held", 0, 0)), 0, None),
        ]
        self.assertEqual(laps(ride, states), [1, 1])

    def test_plays(self):
        random = Random(421)
        for ride in rides(SMALL_RIDES + LARGE_RIDES[:4]):
            scans = random_scans(random, ride, 150, weights=(9.5, 0, 0.2))
            states = play(ride, standard_logic(ride), scans)
            kept = list(states)
            station = ("held", len(ride.ways) - 1, 0)
            expected = []
            for number in range(len(ride.trains)):
                ways = [state[0][number] for state in [ride.first()] + states]
                expected.append(len([1 for old, new in zip(ways, ways[1:]) if new == station != old]))
            self.assertEqual(laps(ride, states), expected)
            self.assertGreater(sum(expected), 0)
            self.assertEqual(states, kept)


class SharesTest(unittest.TestCase):
    def test_trains_that_pass_are_in_two_blocks(self):
        ride = Ride([(1, 2), (1, 1), (1, 1)], 1, [2])
        states = [
            ((("over", 2, 0),), 0, None), ((("way", 0, 0),), 0, None), ((("way", 0, 1),), 0, None),
            ((("held", 0, 0),), 0, None), ((("over", 0, 0),), 0, None), ((("way", 1, 0),), 0, None),
        ]
        self.assertEqual(shares(ride, states), [5, 2, 1])
        self.assertEqual(shares(ride, []), [0, 0, 0])

    def test_two_trains_in_one_block_count_once(self):
        ride = Ride([(1, 1)] * 3, 1, [0, 1])
        self.assertEqual(shares(ride, [((("over", 0, 0), ("held", 1, 0)), 0, None)]), [1, 1, 0])

    def test_plays(self):
        random = Random(422)
        for ride in rides(SMALL_RIDES + LARGE_RIDES[:4]):
            states = play(ride, standard_logic(ride), random_scans(random, ride, 80, weights=(9, 0, 1)))
            kept = list(states)
            expected = [0] * len(ride.ways)
            for trains, _, _ in states:
                full = {block for _, block, _ in trains}
                full |= {(block + 1) % len(ride.ways) for kind, block, _ in trains if kind == "over"}
                for block in full:
                    expected[block] += 1
            self.assertEqual(shares(ride, states), expected)
            self.assertEqual(states, kept)

    def test_held_trains(self):
        ride = Ride([(1, 1)] * 4, 1, [0, 3])
        states = play(ride, logic_for(4), [(GO, (0, 0), None)] * 7)
        self.assertEqual([laps(ride, states), shares(ride, states)], [[0, 0], [7, 0, 0, 7]])


if __name__ == "__main__":
    unittest.main()
