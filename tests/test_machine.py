import unittest
from random import Random

from coastersafe.logic import format_condition, parse_logic
from coastersafe.machine import compiled, run_compiled
from logicsamples import chained, nested, random_logic_text, wide_text

DECLARED = "input a\nbit x 0\ninput b\ntimer t 4\nbit y 1"


def code_of(statement):
    return compiled(parse_logic(DECLARED + "\n" + statement))


class CompiledTest(unittest.TestCase):
    def test_example_of_the_document(self):
        found = compiled(parse_logic("input a\nbit x 0\nx := not ( a or x )"))
        self.assertEqual(found, [("load", 0), ("load", 1), ("or",), ("not",), ("set", 1)])

    def test_no_statements(self):
        self.assertEqual(compiled(parse_logic(DECLARED)), [])

    def test_values(self):
        self.assertEqual(code_of("x := 0"), [("push", 0), ("set", 2)])
        self.assertEqual(code_of("x := 1"), [("push", 1), ("set", 2)])

    def test_slots_are_inputs_first_and_then_the_memory(self):
        for name, slot in (("a", 0), ("b", 1), ("x", 2), ("y", 4)):
            self.assertEqual(code_of(f"y := {name}"), [("load", slot), ("set", 4)])

    def test_timers(self):
        self.assertEqual(code_of("y := t"), [("reached", 3, 4), ("set", 4)])
        self.assertEqual(code_of("t counts x"), [("load", 2), ("count", 3, 4)])
        self.assertEqual(code_of("t counts not t"), [("reached", 3, 4), ("not",), ("count", 3, 4)])

    def test_parts_stand_from_left_to_right(self):
        self.assertEqual(code_of("x := a and not b"), [("load", 0), ("load", 1), ("not",), ("and",), ("set", 2)])
        self.assertEqual(
            code_of("x := a or ( b and y or 1 )"),
            [("load", 0), ("load", 1), ("load", 4), ("and",), ("push", 1), ("or",), ("or",), ("set", 2)],
        )

    def test_statements_stand_one_after_the_other(self):
        found = compiled(parse_logic(DECLARED + "\nx := a\nt counts b\nx := y"))
        expected = [("load", 0), ("set", 2), ("load", 1), ("count", 3, 4), ("load", 4), ("set", 2)]
        self.assertEqual(found, expected)

    def test_nothing_is_made_shorter(self):
        self.assertEqual(code_of("x := not not 0"), [("push", 0), ("not",), ("not",), ("set", 2)])
        self.assertEqual(code_of("x := a and a"), [("load", 0), ("load", 0), ("and",), ("set", 2)])


class RunTest(unittest.TestCase):
    def test_each_instruction(self):
        self.assertEqual(run_compiled([("push", 1), ("set", 1)], [5, 0, 7]), [5, 1, 7])
        self.assertEqual(run_compiled([("push", 0), ("set", 0)], [1, 1]), [0, 1])
        self.assertEqual(run_compiled([("load", 1), ("set", 0)], [0, 1]), [1, 1])
        for count, expected in ((0, 0), (2, 0), (3, 1)):
            self.assertEqual(run_compiled([("reached", 0, 3), ("set", 1)], [count, 9]), [count, expected])
        for value in (0, 1):
            self.assertEqual(run_compiled([("push", value), ("not",), ("set", 0)], [9]), [1 - value])

    def test_and_and_or(self):
        for left in (0, 1):
            for right in (0, 1):
                both = [("push", left), ("push", right)]
                self.assertEqual(run_compiled(both + [("and",), ("set", 0)], [9]), [left & right])
                self.assertEqual(run_compiled(both + [("or",), ("set", 0)], [9]), [left | right])

    def test_count(self):
        for before, value, after in ((0, 1, 1), (1, 1, 2), (2, 1, 2), (0, 0, 0), (1, 0, 0), (2, 0, 0)):
            self.assertEqual(run_compiled([("push", value), ("count", 1, 2)], [7, before]), [7, after])

    def test_conditions_are_taken_from_the_stack(self):
        code = [("push", 0), ("push", 1), ("set", 0), ("set", 1)]
        self.assertEqual(run_compiled(code, [5, 5]), [1, 0])

    def test_no_instructions(self):
        slots = [1, 2, 3]
        after = run_compiled([], slots)
        self.assertEqual(after, [1, 2, 3])
        self.assertIsNot(after, slots)

    def test_the_lists_are_not_modified(self):
        slots = [1, 0]
        code = [("load", 0), ("set", 1)]
        self.assertEqual(run_compiled(code, slots), [1, 1])
        self.assertEqual(slots, [1, 0])
        self.assertEqual(code, [("load", 0), ("set", 1)])

    def test_against_scans(self):
        random = Random(41)
        for _ in range(300):
            logic = parse_logic(random_logic_text(random))
            code = compiled(logic)
            memory = logic.first()
            for _ in range(10):
                inputs = (random.randint(0, 1), random.randint(0, 1))
                slots = run_compiled(code, list(inputs + memory))
                memory = logic.scan(memory, inputs)
                self.assertEqual(slots, list(inputs + memory))

    def test_great_logics(self):
        logic = parse_logic(wide_text(60, 200, 40, 400))
        code = compiled(logic)
        memory = logic.first()
        for scan in range(5):
            inputs = tuple((scan + number) % 2 for number in range(60))
            slots = run_compiled(code, list(inputs + memory))
            memory = logic.scan(memory, inputs)
            self.assertEqual(slots, list(inputs + memory))

    def test_deep_conditions(self):
        for word in ("and", "or"):
            for condition in (chained(word, 60), nested(word, 60)):
                logic = parse_logic(f"input a\ninput b\nbit x 0\nx := {format_condition(condition)}")
                for inputs in ((0, 0), (0, 1), (1, 0), (1, 1)):
                    slots = run_compiled(compiled(logic), list(inputs) + [0])
                    self.assertEqual(tuple(slots[2:]), logic.scan((0,), inputs))


if __name__ == "__main__":
    unittest.main()
