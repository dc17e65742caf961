"""Tests of the conventions (point 2) for every function of the interface."""

import copy
import importlib
import sys
import unittest

from samples import EXAMPLE, TRAIN
from test_form import INTERFACE

from coastersafe import errors
from coastersafe.control import standard_logic
from coastersafe.homeward import best_plan
from coastersafe.interlocks import parse_table
from coastersafe.layout import Layout, format_layout
from coastersafe.logic import format_logic, parse_condition, parse_logic
from coastersafe.machine import compiled
from coastersafe.recorder import record_of
from coastersafe.ride import Ride
from coastersafe.ridecheck import all_faults, check_ride
from coastersafe.ridetext import format_ride, format_train
from coastersafe.rideverdicts import format_ride_verdict
from coastersafe.train import Train

LAYOUT = Layout(EXAMPLE)
LEVEL = Layout([("lift", 10, 0), ("brake", 5, 0), ("lift", 8, 0), ("brake", 5, 0)])
SLOW = Train(3, (0, 100), (200000, 250000), 10000, 10000)
RIDE = Ride([(1, 2), (1, 1), (2, 3)], 2, [2, 0])
SMALL = Ride([(1, 1), (1, 1)], 1, [1])
STANDARD = standard_logic(RIDE)
FITTING = standard_logic(SMALL)
LOGIC = parse_logic("input a\nbit x 0\ntimer t 2\nt counts a\nx := t or x and not a")
CONTACTS = parse_logic("input a\nbit x 0\nx := a and not x")
CONDITION = parse_condition("x and ( not a or t )")
FAULT = (("sensor", 1, 0), 1)
SCANS = [((1, 0, 0), (0, 0), None), ((0, 0, 1), (0, 0), FAULT), ((1, 0, 0), (0, 0), None)]
RUN = [(1,), (1,), (0,)]
TABLE = "input a\noutput x ask a permit not y\nlatch y ask a permit 1\napart x y"
OPENED = check_ride(SMALL, FITTING, all_faults(SMALL)[:2])

# For each function of the interface, by its module, the arguments of some calls; each call is right.
CALLS = {
    "numbers": {
        "divided_down": [(-7, 2)], "divided_up": [(-7, 2)], "root_down": [(24,)], "root_up": [(26,)],
        "is_interval": [((1, 2),), ((2, 1),)], "added": [((1, 2), (3, 4))], "hull": [((1, 2), (5, 6))],
        "common": [((1, 5), (4, 9)), ((1, 2), (4, 9))],
    },
    "layout": {
        "Layout": [(EXAMPLE,)], "format_layout": [(LAYOUT,)], "parse_layout": [(format_layout(LAYOUT),)],
    },
    "train": {"Train": [(3, (0, 100), (200000, 250000), 10000, 10000)]},
    "motion": {
        "after_metre": [(LAYOUT, TRAIN, 20, 40000, 200, None)],
        "roll": [(LAYOUT, TRAIN, 20, 40000, [200, 300], [None, 5])],
        "energies_after": [(LAYOUT, TRAIN, 29, 1000000, 2, True)], "greatest_energies": [(LAYOUT, TRAIN)],
        "least_energies": [(LAYOUT, TRAIN)], "metre_times": [(1, 10000)], "way_times": [(LEVEL, SLOW, 0)],
    },
    "envelope": {
        "envelope": [(LAYOUT, TRAIN)], "stops": [(LAYOUT, TRAIN, 29, 40000)], "faults": [(LAYOUT, TRAIN)],
        "passage_times": [(LEVEL, SLOW, 0)], "ride_of": [(LEVEL, SLOW, 1000000, [1])],
    },
    "ride": {
        "Ride": [([(1, 2), (1, 1)], 1, [1])], "readings": [(RIDE, RIDE.first())],
        "moved": [(RIDE, RIDE.first(), (0, 0, 0, 0, 1, 1), 0, (0, 1), FAULT)], "dangers": [(RIDE, RIDE.first())],
        "is_at_rest": [(RIDE.first(),)],
    },
    "logic": {
        "parse_logic": [(format_logic(LOGIC),)], "format_logic": [(LOGIC,)],
        "condition_value": [(LOGIC, (0, 2), (1,), CONDITION)], "parse_condition": [("a and ( b or 1 )",)],
        "format_condition": [(CONDITION,)],
    },
    "machine": {"compiled": [(LOGIC,)], "run_compiled": [(compiled(LOGIC), [1, 0, 1])]},
    "control": {
        "fits": [(RIDE, STANDARD)], "standard_logic": [(RIDE,)], "safe_scans": [(RIDE,)], "play": [(RIDE, STANDARD, SCANS)],
        "scanned": [(RIDE, STANDARD, RIDE.first(), STANDARD.first(), (1, 0, 0), (0, 0), FAULT)],
    },
    "checker": {
        "check": [(LOGIC, CONDITION), (LOGIC, parse_condition("x and not x"))], "breaks": [(LOGIC, CONDITION, RUN)],
        "is_invariant": [(LOGIC, CONDITION, [(0, 0), (1, 2)])], "reached": [(LOGIC,)],
    },
    "ridecheck": {
        "choices": [(RIDE, RIDE.first(), [FAULT])], "check_ride": [(SMALL, FITTING, all_faults(SMALL)[:2])],
        "is_safe_list": [(SMALL, FITTING, all_faults(SMALL)[:2], OPENED[1])], "all_faults": [(RIDE,)],
    },
    "operation": {
        "operate": [(SMALL, FITTING, "scan go\nfault brake 0 0 1\nscan\nrest")],
        "laps": [(RIDE, [RIDE.first()] * 2)], "shares": [(RIDE, [RIDE.first()] * 2)],
    },
    "rolltimes": {
        "roll_times": [(LEVEL, SLOW, 0, 1000000, [0, 100], [None, None])], "scans_for": [(250000, 100000)],
        "is_within": [((1, 2), (1, 3))],
    },
    "needs": {
        "with_lift": [(SLOW, 5)], "with_strength": [(SLOW, 5)], "least_lift": [(LEVEL, SLOW)],
        "least_strength": [(LEVEL, SLOW)], "longest_train": [(LEVEL,)],
    },
    "rungs": {"parse_rungs": [("input a\nbit x 0\na [ -x | a ] = set x",)], "format_rungs": [(CONTACTS,)]},
    "compare": {"compare": [(LOGIC, CONTACTS, ["x"]), (LOGIC, LOGIC, ["x"])]},
    "simple": {
        "simplified_condition": [(CONDITION,)], "simplified": [(LOGIC,)], "needed": [(LOGIC, ["t"])],
        "cut_down": [(LOGIC, ["t"])],
    },
    "recorder": {
        "record_of": [(RIDE, STANDARD, SCANS)], "causes": [(RIDE, record_of(RIDE, STANDARD, SCANS))],
        "explanation": [(RIDE, record_of(RIDE, STANDARD, SCANS), (FAULT, 1))],
    },
    "interlocks": {"parse_table": [(TABLE,)], "apart_condition": [(TABLE,)]},
    "ridetext": {
        "format_ride": [(RIDE,)], "parse_ride": [(format_ride(RIDE),)], "format_train": [(SLOW,)],
        "parse_train": [(format_train(SLOW),)], "format_play": [(SCANS,)],
        "parse_play": [("go late 0 1\n-\nfault brake 0 1 1", 2)],
    },
    "capacity": {
        "cycle": [(RIDE, STANDARD, 0)], "rate": [(RIDE, STANDARD, 1)], "best_number": [([(1, 2), (1, 1), (3, 4)], 1, 0)],
    },
    "verdicts": {
        "format_verdict": [(("always", [(0,), (1,)]),), (("broken", RUN),)],
        "parse_verdict": [(CONTACTS, "always\nmemory 0\nmemory 1"), (CONTACTS, "broken\nscan 1")],
        "accepts": [(CONTACTS, parse_condition("x"), "broken\nscan 1")],
    },
    "homeward": {
        "after_plan": [(RIDE, (1, 2), [1, 0])], "is_plan": [(RIDE, (1, 2), [1, 0])], "best_plan": [(RIDE, (1, 2))],
    },
    "uses": {
        "readers": [(LOGIC, "a")], "writers": [(LOGIC, "x")], "idle": [(LOGIC,)], "constant_bits": [(LOGIC,)],
        "settled": [(LOGIC,)],
    },
    "fleet": {
        "worst_train": [([SLOW, SLOW],)], "are_safe": [(LEVEL, [SLOW])], "worst_faults": [(LAYOUT, [SLOW, SLOW])],
    },
    "charts": {
        "chart": [(LOGIC, RUN, ["a", "x", "t"])], "run_of_chart": [(LOGIC, "x _-\na --")],
        "is_true_chart": [(LOGIC, "x _-\na --")],
    },
    "suites": {"goals_of": [(LOGIC, RUN)], "suite": [(LOGIC,)], "is_suite": [(LOGIC, [RUN, RUN[1:]])]},
    "rideverdicts": {
        "format_ride_verdict": [(OPENED,), (("unsafe", SCANS),)],
        "parse_ride_verdict": [(SMALL, FITTING, format_ride_verdict(OPENED)), (RIDE, STANDARD, "unsafe\ngo late 1")],
        "accepts_ride": [(SMALL, FITTING, all_faults(SMALL)[:2], format_ride_verdict(OPENED))],
    },
}


def told(value):
    """What a value tells, as plain values that can be compared."""
    if isinstance(value, (list, tuple)):
        return (isinstance(value, list), [told(part) for part in value])
    if isinstance(value, dict):
        return [(told(key), told(part)) for key, part in value.items()]
    if hasattr(value, "__dict__"):
        return (value.__class__.__name__, told(vars(value)))
    return value


def spoil(value):
    """Changes all lists in a value."""
    if isinstance(value, (list, tuple)):
        for part in value:
            spoil(part)
    if isinstance(value, list):
        value.reverse()
        value.append("spoiled")


def calls():
    for module, functions in CALLS.items():
        for name, rows in functions.items():
            function = getattr(importlib.import_module("coastersafe." + module), name)
            for arguments in rows:
                yield f"{module}.{name}", function, arguments


class CallsTest(unittest.TestCase):
    def test_every_function_is_called(self):
        interface = {name: sorted(names) for name, names in INTERFACE.items() if name != "errors"}
        # A Logic is made by reading it.
        interface["logic"].remove("Logic")
        self.assertEqual({name: sorted(rows) for name, rows in CALLS.items()}, interface)

    def test_no_arguments_are_modified(self):
        for name, function, arguments in calls():
            before = told(copy.deepcopy(arguments))
            function(*arguments)
            self.assertEqual(told(arguments), before, name)

    def test_the_same_arguments_give_the_same_result(self):
        for name, function, arguments in calls():
            result = told(function(*arguments))
            self.assertEqual(told(function(*arguments)), result, name)
            self.assertEqual(told(function(*copy.deepcopy(arguments))), result, name)

    def test_returned_lists_are_new(self):
        for name, function, arguments in calls():
            before = told(copy.deepcopy(arguments))
            result = function(*arguments)
            first = told(result)
            spoil(result)
            self.assertEqual(told(arguments), before, name)
            self.assertEqual(told(function(*arguments)), first, name)

    def test_no_result_keeps_a_list(self):
        for name, function, arguments in calls():
            own = copy.deepcopy(arguments)
            result = function(*own)
            first = told(copy.deepcopy(result))
            spoil(own)
            self.assertEqual(told(result), first, name)

    def test_methods_give_new_lists(self):
        for call in (RIDE.parts, RIDE.first, STANDARD.first, lambda: LAYOUT.metre(3)):
            first = told(call())
            spoil(call())
            self.assertEqual(told(call()), first)

    def test_fields_are_tuples(self):
        for value in (
            LAYOUT.segments, RIDE.ways, RIDE.trains, LOGIC.inputs, LOGIC.bits, LOGIC.timers, LOGIC.statements, LOGIC.order,
            SLOW.friction, SLOW.brake, parse_table(TABLE).statements,
        ):
            self.assertIsInstance(value, tuple)


class ErrorsTest(unittest.TestCase):
    def test_no_error_is_below_another_one(self):
        classes = [getattr(errors, name) for name in INTERFACE["errors"]]
        for one in classes:
            for other in classes:
                self.assertEqual(issubclass(one, other), one is other or other is errors.CoasterError)

    def test_no_other_error_class(self):
        for name in INTERFACE:
            module = importlib.import_module("coastersafe." + name)
            for value in vars(module).values():
                if isinstance(value, type) and issubclass(value, Exception):
                    self.assertEqual(value.__module__, "coastersafe.errors")


class DepthTest(unittest.TestCase):
    """No function nests calls deeper than a few hundred."""

    def setUp(self):
        frame = sys._getframe()
        depth = 0
        while frame is not None:
            depth += 1
            frame = frame.f_back
        limit = sys.getrecursionlimit()
        self.addCleanup(sys.setrecursionlimit, limit)
        sys.setrecursionlimit(depth + 300)

    def test_all_calls(self):
        for _, function, arguments in calls():
            function(*arguments)

    def test_long_tracks(self):
        from coastersafe.envelope import envelope, faults
        from coastersafe.fleet import worst_faults
        from coastersafe.motion import energies_after, greatest_energies

        segments = [("lift", 300, 0), ("brake", 33, 0)] * 12
        layout = Layout(segments)
        self.assertEqual(len(envelope(layout, SLOW)), 3996)
        self.assertEqual(len(greatest_energies(layout, SLOW)), 3996)
        self.assertEqual(faults(layout, SLOW), worst_faults(layout, [SLOW] * 50))
        self.assertEqual(len(energies_after(layout, SLOW, 0, 1, 20000, False)), 20000)

    def test_long_runs(self):
        from coastersafe.charts import chart, is_true_chart
        from coastersafe.checker import breaks, check
        from coastersafe.suites import goals_of, suite
        from coastersafe.uses import settled
        from coastersafe.verdicts import accepts, format_verdict

        count = 3000
        self.assertIs(breaks(LOGIC, CONDITION, RUN * count), True)
        self.assertEqual(len(goals_of(LOGIC, RUN * count)), 4)
        text = chart(LOGIC, RUN * count, ["a", "t"])
        self.assertIs(is_true_chart(LOGIC, text), True)
        clocks = parse_logic("input a\ntimer t 70\ntimer u 100\nbit x 0\nt counts not t\nu counts not u\nx := t and u")
        verdict = check(clocks, parse_condition("x"))
        # Both timers are at their limits for the first time one scan before both begin anew.
        self.assertEqual(len(verdict[1]), 71 * 101 - 1)
        self.assertIs(accepts(clocks, parse_condition("x"), format_verdict(verdict)), True)
        self.assertEqual(len(suite(clocks)), 6)
        self.assertEqual(settled(clocks), [])

    def test_long_logics(self):
        from coastersafe.checker import breaks
        from coastersafe.compare import compare
        from coastersafe.interlocks import apart_condition
        from coastersafe.rungs import format_rungs, parse_rungs
        from coastersafe.simple import cut_down, simplified
        from coastersafe.uses import idle, readers

        deep = "not " * 59 + "a"
        text = "\n".join(["input a", "bit x 0"] + [f"x := {deep}"] * 400)
        logic = parse_logic(text)
        self.assertEqual(format_logic(simplified(logic)).split("\n")[-1], "x := not a")
        self.assertEqual((len(readers(logic, "a")), idle(logic)), (400, ["x"]))
        self.assertEqual(compare(logic, cut_down(logic, ["x"]), ["x"])[0], "same")
        self.assertEqual(len(compiled(logic)), 400 * 61)
        chain = "\n".join(["input a"] + [f"bit x{at} 0" for at in range(200)] + ["x0 := a"])
        chain += "\n" + "\n".join([f"x{at} := x{at - 1}" for at in range(1, 200)])
        logic = parse_logic(chain)
        self.assertEqual(len(cut_down(logic, ["x199"]).statements), 200)
        self.assertEqual(parse_rungs(format_rungs(logic)), logic)
        outputs = [f"output o{at} ask 1 permit 1" for at in range(40)]
        pairs = [f"apart o{at} o{other}" for at in range(20) for other in range(20, 30)]
        table = "\n".join(outputs + pairs)
        self.assertIs(breaks(parse_table(table), apart_condition(table), [()] * 3), False)

    def test_conditions_of_any_depth_are_refused(self):
        for text in ("not " * 50000 + "a", "( " * 50000 + "a" + " )" * 50000, "a" + " and a" * 50000):
            if text.startswith("("):
                self.assertEqual(parse_condition(text), ("name", "a"))
            else:
                with self.assertRaises(errors.InvalidText):
                    parse_condition(text)

    def test_long_plays(self):
        from coastersafe.capacity import best_number, rate
        from coastersafe.control import play
        from coastersafe.ridetext import format_play, parse_play
        from coastersafe.rideverdicts import accepts_ride

        scans = [((1, 0, 0), (0, 0), None)] * 2000
        self.assertEqual(len(play(RIDE, STANDARD, scans)), 2000)
        self.assertEqual(parse_play(format_play(scans), 2), scans)
        self.assertIs(accepts_ride(RIDE, STANDARD, [], "unsafe\n" + format_play(scans)), False)
        wide = [(1, 99)] * 12
        ride = Ride(wide, 20, [11, 10, 9])
        self.assertEqual(rate(ride, standard_logic(ride), 1)[0], 1)
        self.assertEqual(best_number(wide[:4], 20, 1), 3)
        self.assertEqual(len(best_plan(Ride([(1, 1)] * 7, 1, [0, 1, 2]), (0, 1, 2))), 18)


if __name__ == "__main__":
    unittest.main()
