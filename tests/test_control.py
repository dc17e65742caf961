import unittest
from random import Random

from coastersafe.control import fits, play, safe_scans, scanned, standard_logic
from coastersafe.errors import NotFitting
from coastersafe.logic import parse_logic
from coastersafe.ride import Ride, moved, readings
from coastersafe.ridecheck import all_faults
from ridesamples import (
    GO, LARGE_RIDES, NOTHING, OPEN, SMALL_RIDES, caliper_names, copied, input_names, logic_for, random_scans, rides,
)


def plain_commands(ride, logic, memory):
    blocks = len(ride.ways)
    commands = tuple([logic.value(memory, name) for name in caliper_names(blocks)])
    return commands, logic.value(memory, "bars")


class FitsTest(unittest.TestCase):
    def setUp(self):
        self.ride = Ride([(1, 1)] * 3, 1, [2])
        self.logic = logic_for(3)

    def assert_fits(self, expected, logic):
        self.assertIs(fits(self.ride, logic), expected)

    def with_inputs(self, inputs):
        return copied(self.logic, inputs=tuple(inputs))

    def test_all_names(self):
        self.assert_fits(True, self.logic)
        for blocks in range(2, 13):
            ride = Ride([(1, 1)] * blocks, 1, [0])
            for others in range(2, 13):
                self.assertIs(fits(ride, logic_for(others)), blocks == others)

    def test_more_than_needed(self):
        self.assert_fits(True, logic_for(3, bits=["more"]))
        self.assert_fits(True, logic_for(3, ["b0a := b1b", "bars := go", "b0a := 0"]))
        text = "\n".join(["timer t 5"] + ["input " + name for name in input_names(3)])
        text += "".join([f"\nbit {name} 1" for name in ["bars"] + caliper_names(3)[::-1]])
        self.assert_fits(True, parse_logic(text))

    def test_bits_that_are_missing(self):
        for name in caliper_names(3) + ["bars"]:
            bits = tuple([bit for bit in self.logic.bits if bit[0] != name])
            order = tuple([other for other in self.logic.order if other != name])
            self.assert_fits(False, copied(self.logic, bits=bits, order=order))
            self.assert_fits(False, copied(self.logic, bits=bits, timers=((name, 1),)))

    def test_inputs_that_are_missing(self):
        names = input_names(3)
        for name in names:
            self.assert_fits(False, self.with_inputs([other for other in names if other != name]))
        self.assert_fits(False, self.with_inputs([]))

    def test_inputs_in_another_order(self):
        names = input_names(3)
        for at in range(len(names) - 1):
            swapped = list(names)
            swapped[at], swapped[at + 1] = names[at + 1], names[at]
            self.assert_fits(False, self.with_inputs(swapped))

    def test_one_more_input(self):
        names = input_names(3)
        for at in range(len(names) + 1):
            self.assert_fits(False, self.with_inputs(names[:at] + ["more"] + names[at:]))


class StandardLogicTest(unittest.TestCase):
    def test_it_fits_and_is_small(self):
        for blocks in range(2, 13):
            for trains in ([0], [blocks - 1], list(range(blocks - 1))[::-1]):
                ride = Ride([(1, 2)] * blocks, 3, trains)
                logic = standard_logic(ride)
                self.assertTrue(fits(ride, logic))
                self.assertLessEqual(len(logic.bits), 10 * blocks + 10)
                self.assertLessEqual(len(logic.timers), 10)
                self.assertLessEqual(len(logic.statements), 20 * blocks + 20)

    def test_it_is_the_same_each_time(self):
        for ride in rides(SMALL_RIDES + LARGE_RIDES):
            self.assertEqual(standard_logic(ride), standard_logic(ride))


class ScannedTest(unittest.TestCase):
    def test_it_is_readings_then_logic_then_move(self):
        random = Random(31)
        for ride in rides(SMALL_RIDES + LARGE_RIDES):
            logic = standard_logic(ride)
            for fault in [None] + random.sample(all_faults(ride), 3):
                scene = (ride.first(), logic.first())
                for scan in random_scans(random, ride, 30, fault, random.randrange(30), (7, 0.3, 2)):
                    buttons, late, new = scan
                    memory = logic.scan(scene[1], readings(ride, scene[0]) + buttons)
                    commands, bars = plain_commands(ride, logic, memory)
                    expected = (moved(ride, scene[0], commands, bars, late, new), memory)
                    scene = scanned(ride, logic, *scene, *scan)
                    self.assertEqual(scene, expected)

    def test_the_commands_go_to_their_calipers(self):
        ride = Ride([(1, 1)] * 3, 1, [0, 1])
        logic = logic_for(3, ["b1a := go", "b1b := go", "b0a := open", "b2b := open"])
        state, memory = scanned(ride, logic, ride.first(), logic.first(), GO, (0, 0), None)
        self.assertEqual(state, ((("held", 0, 0), ("over", 1, 0)), 0, None))
        self.assertEqual(logic.value(memory, "b1b"), 1)
        fault = (("brake", 0, 1), 1)
        state, memory = scanned(ride, logic, ride.first(), logic.first(), OPEN, (0, 0), fault)
        self.assertEqual(state, ((("over", 0, 0), ("held", 1, 0)), 0, fault))

    def test_the_logic_reads_what_the_sensors_tell(self):
        ride = Ride([(1, 1)] * 2, 1, [1])
        logic = logic_for(2, ["bars := pa and not pb"])
        fault = (("present", 0, 1), 0)
        first = (ride.first(), logic.first())
        self.assertEqual(scanned(ride, logic, *first, NOTHING, (0,), fault)[0][1], 0)
        state = ((("held", 1, 0),), 0, fault)
        self.assertEqual(scanned(ride, logic, state, logic.first(), NOTHING, (0,), None)[0][1], 1)

    def test_not_fitting(self):
        ride = Ride([(1, 1)] * 3, 1, [2, 0])
        logic = standard_logic(ride)
        fault = (("sensor", 0, 0), 1)
        faulty = (ride.first()[0], 0, fault)
        for other, state, memory, late, new in (
            (logic_for(2), ride.first(), logic.first(), (0, 0), None),
            (standard_logic(Ride([(1, 1)] * 4, 1, [2, 0])), ride.first(), logic.first(), (0, 0), None),
            (logic, ride.first(), logic.first(), (0,), None),
            (logic, ride.first(), logic.first(), (0, 0, 0), None),
            (logic, ride.first(), logic.first(), (), None),
            (logic, ride.first(), logic.first(), (0, 0), (("sensor", 3, 0), 1)),
            (logic, ride.first(), logic.first(), (0, 0), (("brake", 0, 2), 1)),
            (logic, ride.first(), logic.first(), (0, 0), (("present", 1, 0), 0)),
            (logic, faulty, logic.first(), (0, 0), fault),
            (logic, faulty, logic.first(), (0, 0), (("brake", 1, 1), 0)),
            (logic, ride.first(), logic.first()[1:], (0, 0), None),
        ):
            with self.assertRaises(NotFitting):
                scanned(ride, other, state, memory, GO, late, new)
        renamed = copied(logic, inputs=logic.inputs[:-1] + ("opens",))
        without = [copied(logic, bits=tuple([bit for bit in logic.bits if bit[0] != name])) for name in ("bars", "b1b")]
        for other in [renamed] + without:
            with self.assertRaises(NotFitting):
                scanned(ride, other, ride.first(), logic.first(), GO, (0, 0), None)
            for scans in ([], [(GO, (0, 0), None)]):
                with self.assertRaises(NotFitting):
                    play(ride, other, scans)
        for buttons in ((), (1, 0), (1, 0, 0, 0)):
            with self.assertRaises(NotFitting):
                scanned(ride, logic, ride.first(), logic.first(), buttons, (0, 0), None)
        self.assertEqual(scanned(ride, logic, faulty, logic.first(), GO, (0, 0), None)[0][2], fault)


class PlayTest(unittest.TestCase):
    def test_example_of_the_document(self):
        ride = Ride([(1, 2), (1, 1)], 1, [1])
        states = play(ride, standard_logic(ride), [(OPEN, (0,), None), (GO, (0,), None), (GO, (0,), None)])
        found = [state[:2] for state in states]
        self.assertEqual(found, [((("held", 1, 0),), 1), ((("over", 1, 0),), 0), ((("way", 0, 0),), 0)])

    def test_a_play_is_scans_from_the_beginning(self):
        random = Random(32)
        for ride in rides(SMALL_RIDES + LARGE_RIDES):
            logic = standard_logic(ride)
            fault = random.choice(all_faults(ride))
            scans = random_scans(random, ride, 40, fault, 17, (8, 0.2, 1))
            kept = list(scans)
            scene = (ride.first(), logic.first())
            expected = []
            for scan in scans:
                scene = scanned(ride, logic, *scene, *scan)
                expected.append(scene[0])
            self.assertEqual(play(ride, logic, scans), expected)
            self.assertEqual(scans, kept)
            self.assertEqual(expected[16][2], None)
            self.assertEqual(expected[17][2], fault)

    def test_a_play_without_scans(self):
        ride = Ride([(1, 2), (1, 1)], 1, [1])
        self.assertEqual(play(ride, standard_logic(ride), []), [])

    def test_a_long_play(self):
        ride = Ride([(1, 2), (1, 1)], 1, [1])
        self.assertEqual(len(play(ride, standard_logic(ride), [(GO, (0,), None)] * 3000)), 3000)

    def test_not_fitting(self):
        ride = Ride([(1, 2), (1, 1)], 1, [1])
        logic = standard_logic(ride)
        fault = (("brake", 1, 0), 1)
        good = (GO, (0,), None)
        with self.assertRaises(NotFitting):
            play(ride, logic_for(3), [])
        for scans in (
            [good, (GO, (0, 0), None)],
            [good, (GO, (), None)],
            [good, (GO, (0,), (("brake", 2, 0), 1))],
            [(GO, (0,), fault), (GO, (0,), fault)],
            [(GO, (0,), fault), good, (GO, (0,), (("sensor", 0, 0), 0))],
        ):
            with self.assertRaises(NotFitting, msg=scans):
                play(ride, logic, scans)


class SafeScansTest(unittest.TestCase):
    def test_safe_scans(self):
        self.assertEqual(safe_scans(Ride([(1, 2), (1, 1)], 1, [1])), 3)
        self.assertEqual(safe_scans(Ride([(1, 2), (5, 7), (1, 3)], 4, [1])), 11)
        self.assertEqual(safe_scans(Ride([(1, 1), (1, 99)], 20, [1])), 119)


if __name__ == "__main__":
    unittest.main()
