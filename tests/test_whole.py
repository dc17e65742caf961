"""Tests of what several modules promise together (points 33, 53, 55, 65 and 69)."""

import unittest
from random import Random

from logicsamples import random_logic_text
from ridesamples import GO, NOTHING, OPEN, SMALL_RIDES, STOP, random_scans, rides

from coastersafe.charts import chart, is_true_chart, run_of_chart
from coastersafe.checker import breaks, check
from coastersafe.compare import compare
from coastersafe.control import play, safe_scans, standard_logic
from coastersafe.envelope import ride_of
from coastersafe.fleet import are_safe, worst_faults, worst_train
from coastersafe.homeward import best_plan, is_plan
from coastersafe.interlocks import apart_condition, parse_table
from coastersafe.layout import format_layout, parse_layout
from coastersafe.logic import format_logic, parse_condition, parse_logic
from coastersafe.machine import compiled, run_compiled
from coastersafe.recorder import causes, record_of
from coastersafe.ride import dangers, is_at_rest
from coastersafe.ridecheck import all_faults, check_ride
from coastersafe.ridetext import format_play, format_ride, format_train, parse_play, parse_ride, parse_train
from coastersafe.rideverdicts import accepts_ride, format_ride_verdict
from coastersafe.rolltimes import is_within
from coastersafe.suites import is_suite, suite
from coastersafe.train import Train
from coastersafe.uses import constant_bits, settled
from coastersafe.verdicts import accepts, format_verdict

LEVEL = "lift 10 0\nbrake 5 0\nlift 8 0\nbrake 5 0\nlift 9 0\nbrake 6 0"
TRAINS = [
    "train 3 friction 0 100 brake 200000 250000 lift 10000 drive 10000",
    "train 3 friction 50 60 brake 150000 300000 lift 10000 drive 10000",
    "train 3 friction 20 300 brake 190000 190000 lift 10000 drive 10000",
]
INTERLOCKS = "\n".join([
    "input a", "input b", "input c",
    "output up ask a permit not c",
    "latch down ask b permit not c and not up",
    "output door ask c or 1 permit not up",
    "latch lamp ask up or down or lamp permit 1",
    "apart down up", "apart door down", "apart door up",
])


class FromTrackToLogicTest(unittest.TestCase):
    def test_trains_of_several_kinds_on_one_track(self):
        layout = parse_layout(LEVEL)
        trains = [parse_train(text) for text in TRAINS]
        worst = worst_train(trains)
        self.assertEqual(format_train(worst), "train 3 friction 0 300 brake 150000 300000 lift 10000 drive 10000")
        self.assertEqual(worst_faults(layout, trains), [])
        self.assertIs(are_safe(layout, trains), True)
        outer = ride_of(layout, worst, 1000000, [2, 0])
        for train in trains:
            ride = ride_of(layout, train, 1000000, [2, 0])
            self.assertTrue(all(is_within(way, wide) for way, wide in zip(ride.ways, outer.ways)))
            self.assertLessEqual(ride.over, outer.over)
        self.assertEqual(format_layout(layout), LEVEL)

    def test_a_ride_from_its_track_to_its_verdict(self):
        layout = parse_layout("lift 6 0\nbrake 5 0\nlift 5 0\nbrake 5 0")
        ride = ride_of(layout, Train(3, (0, 100), (200000, 250000), 1000000, 1000000), 100000, [1])
        again = parse_ride(format_ride(ride))
        logic = standard_logic(again)
        faults = [(("sensor", 0, 1), 0), (("brake", 1, 0), 1)]
        verdict = check_ride(again, logic, faults)
        self.assertEqual(verdict[0], "safe")
        self.assertIs(accepts_ride(ride, logic, faults, format_ride_verdict(verdict)), True)


class StandardLogicTest(unittest.TestCase):
    def test_verdicts(self):
        for ride in rides(SMALL_RIDES[:4]):
            logic = standard_logic(ride)
            verdict = check_ride(ride, logic, all_faults(ride), limit=100000)
            self.assertEqual(verdict[0], "safe")
            self.assertIs(accepts_ride(ride, logic, all_faults(ride), format_ride_verdict(verdict)), True)

    def test_after_a_stop_all_trains_come_home(self):
        random = Random(65)
        for ride in rides(SMALL_RIDES):
            logic = standard_logic(ride)
            for _ in range(5):
                scans = random_scans(random, ride, 20, weights=(6, 0, 2))
                scans += [(STOP, (1,) * len(ride.trains), None)] * safe_scans(ride)
                states = play(ride, logic, scans)
                self.assertEqual([dangers(ride, state) for state in states], [[]] * len(scans))
                self.assertIs(is_at_rest(states[-1]), True)
                places = tuple([block for _, block, _ in states[-1][0]])
                self.assertIs(is_plan(ride, places, best_plan(ride, places)), True)

    def test_true_causes_of_written_plays(self):
        random = Random(53)
        for ride in rides(SMALL_RIDES):
            logic = standard_logic(ride)
            for _ in range(4):
                fault = random.choice(all_faults(ride))
                at = random.randint(0, 15)
                scans = random_scans(random, ride, 14, fault, at, (7, 0, 1))
                scans = parse_play(format_play(scans), len(ride.trains))
                true = (fault, at) if at < 13 else None
                self.assertIn(true, causes(ride, record_of(ride, logic, scans)))

    def test_buttons_alone_do_no_harm(self):
        for ride in rides(SMALL_RIDES[:3]):
            for buttons in (GO, STOP, OPEN, NOTHING, (1, 1, 1), (1, 0, 1)):
                states = play(ride, standard_logic(ride), [(buttons, (0,) * len(ride.trains), None)] * 30)
                self.assertEqual([dangers(ride, state) for state in states], [[]] * 30)


class InterlocksTest(unittest.TestCase):
    def test_a_table_through_all_modules(self):
        logic = parse_table(INTERLOCKS)
        never = apart_condition(INTERLOCKS)
        self.assertEqual(parse_logic(format_logic(logic)), logic)
        verdict = check(logic, never)
        self.assertEqual(verdict[0], "always")
        self.assertIs(accepts(logic, never, format_verdict(verdict)), True)
        told = suite(logic)
        self.assertIs(is_suite(logic, [run for _, run in told]), True)
        self.assertEqual(settled(logic), [])
        self.assertEqual(constant_bits(logic), [])
        for _, run in told:
            self.assertIs(breaks(logic, never, run), False)
            names = list(logic.inputs + logic.order)
            text = chart(logic, run, names)
            self.assertIs(is_true_chart(logic, text), True)
            self.assertEqual(run_of_chart(logic, text), run)
        wrong = parse_condition("lamp and not a and not b")
        verdict = check(logic, wrong)
        self.assertEqual(verdict, ("broken", [(0, 1, 0), (0, 0, 0)]))
        self.assertIs(accepts(logic, wrong, format_verdict(verdict)), True)
        self.assertIs(accepts(logic, never, format_verdict(verdict)), False)
        self.assertEqual(compare(logic, parse_logic(format_logic(logic)), list(logic.order))[0], "same")


class LogicTest(unittest.TestCase):
    def test_one_run_through_all_modules(self):
        random = Random(71)
        for _ in range(40):
            logic = parse_logic(random_logic_text(random))
            run = [(random.randint(0, 1), random.randint(0, 1)) for _ in range(8)]
            text = chart(logic, run, list(logic.inputs + logic.order))
            memory = logic.first()
            for at, told in enumerate(run):
                slots = run_compiled(compiled(logic), list(told + memory))
                memory = logic.scan(memory, told)
                self.assertEqual(tuple(slots[2:]), memory)
                signs = [line.split(" ")[1][at] for line in text.split("\n")]
                ones = ["-" if number else "_" for number in told]
                self.assertEqual(signs[:2], ones)
            self.assertEqual(run_of_chart(logic, text), run)


if __name__ == "__main__":
    unittest.main()
