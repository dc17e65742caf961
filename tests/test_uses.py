"""Tests of what a logic uses (points 66 and 67)."""

import unittest
from random import Random

from logicsamples import all_told, plainly_done, plainly_reached, random_logic_text
from ridesamples import SMALL_RIDES, rides

from coastersafe.checker import reached
from coastersafe.control import standard_logic
from coastersafe.errors import TooLarge, UnknownName
from coastersafe.logic import parse_logic
from coastersafe.uses import constant_bits, idle, readers, settled, writers

MIXED = parse_logic("\n".join([
    "input a", "timer t 2", "input b", "bit x 0", "input c", "timer u 5", "bit y 1", "bit z 0",
    "t counts a and not x or a and t",
    "x := t",
    "y := 1",
    "x := ( x or a ) and not ( b or not a )",
    "u counts x and x",
]))


def words_of(condition):
    """All names in a condition."""
    if condition[0] == "name":
        return {condition[1]}
    return set().union(*[words_of(part) for part in condition[1:] if isinstance(part, tuple)])


class NamesTest(unittest.TestCase):
    def test_readers_and_writers(self):
        for name, reading, writing in (
            ("a", [0, 3], []), ("b", [3], []), ("c", [], []), ("x", [0, 3, 4], [1, 3]), ("t", [0, 1], [0]),
            ("u", [], [4]), ("y", [], [2]), ("z", [], []),
        ):
            self.assertEqual((readers(MIXED, name), writers(MIXED, name)), (reading, writing), name)

    def test_a_statement_reads_and_writes_the_same_bit(self):
        logic = parse_logic("input a\nbit x 0\nx := x or x and not x\nx := a")
        self.assertEqual((readers(logic, "x"), writers(logic, "x")), ([0], [0, 1]))

    def test_drawn_logics(self):
        random = Random(66)
        for _ in range(60):
            logic = parse_logic(random_logic_text(random))
            for name in ("i", "j", "x", "y", "z", "t", "u"):
                statements = list(enumerate(logic.statements))
                self.assertEqual(readers(logic, name), [at for at, row in statements if name in words_of(row[2])])
                self.assertEqual(writers(logic, name), [at for at, row in statements if row[1] == name])
            used = set().union(*[words_of(row[2]) for row in logic.statements])
            self.assertEqual(idle(logic), [name for name in logic.inputs + logic.order if name not in used])

    def test_names_that_are_not_declared(self):
        for function in (readers, writers):
            for name in ("d", "", "set", "xx", "A"):
                with self.assertRaises(UnknownName) as caught:
                    function(MIXED, name)
                self.assertEqual(caught.exception.name, name)

    def test_idle(self):
        self.assertEqual(idle(MIXED), ["c", "u", "y", "z"])
        self.assertEqual(idle(parse_logic("bit x 0\ninput b\ntimer t 3\ninput a\nbit w 0")), ["b", "a", "x", "t", "w"])
        self.assertEqual(idle(parse_logic("input a\nbit x 0\nx := a or x")), [])
        self.assertEqual(idle(parse_logic("input a\nbit x 0\nx := a")), ["x"])


class ReachedTest(unittest.TestCase):
    def test_the_example(self):
        logic = parse_logic("input a\nbit x 0\nbit y 0\nx := a and not a\ny := a or x")
        self.assertEqual([constant_bits(logic), settled(logic), idle(logic)], [[("x", 0)], [(0, 0)], ["y"]])

    def test_by_hand(self):
        logic = parse_logic("\n".join([
            "input a", "timer t 3", "bit one 1", "bit seen 0", "bit never 0", "bit still 1", "bit late 1",
            "t counts a",
            "seen := seen or t",
            "never := seen and not seen",
            "one := one or never",
            "late := not t",
            "seen := 0",
            "never := seen",
            "still := still",
        ]))
        # A timer is no bit, and `late` is 0 after three scans.
        self.assertEqual(constant_bits(logic), [("one", 1), ("seen", 0), ("never", 0), ("still", 1)])
        self.assertEqual(settled(logic), [(2, 0), (3, 1), (5, 0), (6, 0), (7, 1)])

    def test_what_the_statements_before_have_left(self):
        # Between both statements x is 1, though it is 0 in all memories.
        logic = parse_logic("input a\nbit x 0\nbit y 0\nx := 1\ny := x\nx := 0\ny := y and x")
        self.assertEqual(constant_bits(logic), [("x", 0), ("y", 0)])
        self.assertEqual(settled(logic), [(0, 1), (1, 1), (2, 0), (3, 0)])

    def test_the_memory_at_the_beginning_counts(self):
        logic = parse_logic("bit x 0\nbit y 1\nx := 1\ny := x and y")
        self.assertEqual(constant_bits(logic), [("y", 1)])
        self.assertEqual(settled(logic), [(0, 1), (1, 1)])
        self.assertEqual(constant_bits(parse_logic("bit x 0\nx := 1")), [])
        self.assertEqual(settled(parse_logic("bit x 0\nx := not x")), [])

    def test_memories_that_are_not_reached(self):
        logic = parse_logic("input a\nbit x 0\nbit y 0\nx := a\ny := x and not a or y")
        self.assertEqual(constant_bits(logic), [("y", 0)])
        self.assertEqual(settled(logic), [(1, 0)])

    def test_nothing_declared_or_stated(self):
        logic = parse_logic("input a\nbit x 1\ntimer t 3")
        self.assertEqual((constant_bits(logic), settled(logic)), ([("x", 1)], []))
        self.assertEqual(constant_bits(parse_logic("input a")), [])

    def test_drawn_logics(self):
        random = Random(67)
        told = {}
        for _ in range(80):
            logic = parse_logic(random_logic_text(random))
            memories = list(plainly_reached(logic))
            constant = []
            for place, name in enumerate(logic.order):
                values = {memory[place] for memory in memories}
                if name in dict(logic.bits) and len(values) == 1:
                    constant.append((name, values.pop()))
            self.assertEqual(constant_bits(logic), constant)
            rows = [plainly_done(logic, memory, inputs)[0] for memory in memories for inputs in all_told(logic)]
            columns = [sorted(set(column)) for column in zip(*rows)]
            fixed = [(at, column[0]) for at, column in enumerate(columns) if len(column) == 1]
            self.assertEqual(settled(logic), fixed)
            told[(bool(constant), bool(fixed))] = True
        self.assertEqual(len(told), 4)

    def test_a_large_logic(self):
        ride = rides(SMALL_RIDES)[4]
        logic = standard_logic(ride)
        self.assertEqual(len(logic.inputs), 11)
        constant = dict(constant_bits(logic))
        self.assertEqual([value for name, value in constant.items() if name.startswith("full")], [])


class LimitsTest(unittest.TestCase):
    def test_limits(self):
        random = Random(68)
        for _ in range(20):
            logic = parse_logic(random_logic_text(random))
            count = len(reached(logic))
            for function in (constant_bits, settled):
                self.assertEqual(function(logic, limit=count), function(logic))
                if count > 1:
                    for limit in (count - 1, 1):
                        with self.assertRaises(TooLarge) as caught:
                            function(logic, limit=limit)
                        self.assertEqual(caught.exception.limit, limit)

    def test_the_limit_that_is_not_told(self):
        # Timers that count over and over come to as many memories as their limits and 1 have in common multiples.
        text = "timer t {}\ntimer u {}\nt counts not t\nu counts not u"
        for function in (constant_bits, settled):
            self.assertEqual(function(parse_logic(text.format(624, 31))), [])
            with self.assertRaises(TooLarge) as caught:
                function(parse_logic(text.format(176, 112)))
            self.assertEqual(caught.exception.limit, 20000)


if __name__ == "__main__":
    unittest.main()
