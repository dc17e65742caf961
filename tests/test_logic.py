import unittest
from itertools import product
from random import Random

from coastersafe.errors import InvalidText, NotFitting, UnknownName
from coastersafe.logic import Logic, format_condition, format_logic, parse_logic
from logicsamples import chained, nested, plain_value, random_logic_text, wide_text

EXAMPLE = "input a\nbit x 0\ntimer t 2\nt counts a\nx := t or x and not a"
DECLARED = "input a\nbit x 0\ntimer t 3"


def fields(logic):
    return (logic.inputs, logic.bits, logic.timers, logic.statements, logic.order)


def plain_scan(logic, memory, inputs):
    """Point 26, with the counts and the values of timers in two places."""
    values = dict(zip(logic.inputs, inputs))
    counts = dict(zip(logic.order, memory))
    limits = dict(logic.timers)

    def refresh():
        for name in logic.order:
            values[name] = int(counts[name] == limits[name]) if name in limits else counts[name]

    for kind, name, condition in logic.statements:
        refresh()
        value = plain_value(condition, values)
        if kind == "set":
            counts[name] = value
        else:
            counts[name] = min(counts[name] + 1, limits[name]) if value else 0
    return tuple(counts[name] for name in logic.order)


class ReadingTest(unittest.TestCase):
    def assert_wrong(self, text, line):
        with self.assertRaises(InvalidText, msg=repr(text)) as caught:
            parse_logic(text)
        self.assertEqual(caught.exception.line, line, repr(text))

    def test_example_of_the_document(self):
        logic = parse_logic(EXAMPLE)
        found = [logic.scan(logic.first(), (1,)), logic.scan((0, 1), (1,)), logic.statements[0]]
        self.assertEqual(found, [(0, 1), (1, 2), ("count", "t", ("name", "a"))])

    def test_fields(self):
        declarations = "timer t 999\ninput b\nbit y 1\ninput a\nbit x 0\ntimer s 1"
        logic = parse_logic(declarations + "\nx := a\ns counts not b\nx := 0")
        self.assertEqual(fields(logic), (
            ("b", "a"),
            (("y", 1), ("x", 0)),
            (("t", 999), ("s", 1)),
            (("set", "x", ("name", "a")), ("count", "s", ("not", ("name", "b"))), ("set", "x", ("value", 0))),
            ("t", "y", "x", "s"),
        ))

    def test_declarations_alone(self):
        self.assertEqual(fields(parse_logic("input a")), (("a",), (), (), (), ()))
        self.assertEqual(fields(parse_logic("bit x 1")), ((), (("x", 1),), (), (), ("x",)))
        self.assertEqual(fields(parse_logic("timer t 7")), ((), (), (("t", 7),), (), ("t",)))

    def test_statements_that_use_later_and_own_names(self):
        logic = parse_logic("bit x 0\nbit y 0\nx := y and x\ny := x")
        self.assertEqual(len(logic.statements), 2)

    def test_empty_lines(self):
        self.assert_wrong("", 1)
        self.assert_wrong("\n", 1)
        self.assert_wrong(DECLARED + "\n", 4)
        self.assert_wrong(DECLARED + "\nx := a\n", 5)
        self.assert_wrong("input a\n\nbit x 0", 2)

    def test_wrong_declarations(self):
        for line in (
            "input", "input ", "input  b", "input b ", " input b", "input b c", "input b 0", "inputs b", "Input b",
            "bit", "bit y", "bit y ", "bit y 2", "bit y 00", "bit y 01", "bit y -0", "bit y -1", "bit y a", "bit y 0 0",
            "bit  y 0", "bit y  0", "bit 0", "bits y 0", "bit 0 y",
            "timer", "timer s", "timer s ", "timer s 0", "timer s 1000", "timer s -1", "timer s 01", "timer s 007",
            "timer s +1", "timer s x", "timer s 1 1", "timer s 1234567890", "timer  s 1", "timer 3", "timer s 1.5",
            "b", "output b", "input\tb", "input b\r", "bit y := 0", "input b := a",
        ):
            self.assert_wrong(DECLARED + "\n" + line, 4)

    def test_limits_of_timers(self):
        for limit in (1, 2, 9, 10, 998, 999):
            self.assertEqual(parse_logic(f"timer t {limit}").timers, (("t", limit),))

    def test_names(self):
        for name in ("a", "z9", "abcdefghijkl", "a00000000000", "inputs", "ands"):
            self.assertEqual(parse_logic(f"input {name}").inputs, (name,))
            self.assertEqual(parse_logic(f"bit {name} 0\n{name} := {name}").order, (name,))
            self.assertEqual(parse_logic(f"timer {name} 5\n{name} counts {name}").order, (name,))

    def test_words_that_are_no_names(self):
        for name in (
            "abcdefghijklm", "a000000000000", "1a", "A", "aB", "a_b", "a-b", "_a", "a.", "", "0", "1",
            "input", "bit", "timer", "counts", "and", "or", "not", ":=", "(",
        ):
            self.assert_wrong(f"input b\ninput {name}", 2)
            self.assert_wrong(f"input b\nbit {name} 0", 2)
            self.assert_wrong(f"input b\ntimer {name} 5", 2)

    def test_names_are_declared_once(self):
        for first, second in product(("input a", "bit a 0", "timer a 5"), repeat=2):
            self.assert_wrong(f"input b\n{first}\ninput c\n{second}", 4)

    def test_wrong_statements(self):
        for line in (
            "x", "x :=", "x := ", "x = a", "x : a", ":= a", "x a", "x := a b", "x  := a", "x :=  a", "x := a ",
            " x := a", "x := a and", "x := ( a", "x := a )", "x := 2", "x := not", "x := x := a",
            "t counts", "t counts ", "t count a", "t counts a b",
            "counts t a", "t  counts a", "x:=a", "x :=a", "T counts a", "x :=\ta",
        ):
            self.assert_wrong(DECLARED + "\n" + line, 4)
            self.assert_wrong(DECLARED + "\nx := a\n" + line, 5)

    def test_names_of_another_kind(self):
        for line in ("a := x", "t := x", "a counts x", "x counts a"):
            self.assert_wrong(DECLARED + "\n" + line, 4)
        parse_logic(DECLARED + "\nx := t and x and a\nt counts t or x or a")

    def test_names_that_are_not_declared(self):
        for line in (
            "y := a", "s counts a", "x := y", "x := a and not ( x or y )", "t counts y", "x := y or a", "input := a",
        ):
            self.assert_wrong(DECLARED + "\n" + line, 4)

    def test_lines_in_the_wrong_part(self):
        for line in ("input b", "bit y 0", "timer s 5"):
            self.assert_wrong(DECLARED + "\nx := a\n" + line, 5)
            self.assert_wrong(DECLARED + "\nx := a\nt counts a\n" + line + "\nx := a", 6)
            self.assert_wrong(line + "\n" + DECLARED + "\nx := a\n" + line, 6)

    def test_a_statement_before_the_declaration_of_its_names(self):
        self.assert_wrong("bit x 0\nx := a\ninput a", 2)
        self.assert_wrong("x := a\ninput a\nbit x 0", 1)

    def test_the_first_of_two_wrong_lines(self):
        self.assert_wrong("input a\nbit x 2\nbit y 3", 2)
        self.assert_wrong("input a\nbit x 0\nx := y\nx := (", 3)
        self.assert_wrong("input a\nbit x 0\nx := a\nbit y 0\nx := z", 4)
        self.assert_wrong("input a\ninput 1\n\nx", 2)
        self.assert_wrong("x\ninput a\ninput a", 1)

    def test_the_greatest_numbers(self):
        for name, most in (("inputs", 60), ("bits", 200), ("timers", 40), ("statements", 400)):
            logic = parse_logic(wide_text(**{name: most}))
            self.assertEqual(len(getattr(logic, name)), most)
            parse_logic(wide_text(**{name: most - 1}))
            text = wide_text(**{name: most + 1})
            kinds = {"inputs": "input i", "bits": "bit b", "timers": "timer t"}
            lines = text.split("\n")
            if name == "statements":
                line = len(lines)
            else:
                line = lines.index([one for one in lines if one.startswith(kinds[name] + str(most))][0]) + 1
            self.assert_wrong(text, line)

    def test_all_greatest_numbers_together(self):
        logic = parse_logic(wide_text(60, 200, 40, 400))
        self.assertEqual([len(field) for field in fields(logic)], [60, 200, 40, 400, 240])
        self.assertEqual(parse_logic(format_logic(logic)), logic)

    def deep_conditions(self, depth):
        return [chained(word, depth) for word in ("and", "or", "not")] + [nested(word, depth) for word in ("and", "or")]

    def test_depths_of_conditions(self):
        head = "input a\ninput b\nbit x 0\ntimer t 5"
        for condition in self.deep_conditions(60):
            text = format_condition(condition)
            logic = parse_logic(f"{head}\nx := {text}\nt counts {text}")
            self.assertEqual([statement[2] for statement in logic.statements], [condition, condition])
        for condition in self.deep_conditions(61):
            text = format_condition(condition)
            self.assert_wrong(f"{head}\nx := a\nx := {text}\nx := a", 6)
            self.assert_wrong(f"{head}\nt counts {text}", 5)

    def test_needless_brackets(self):
        for many in (1, 60, 61, 5000):
            logic = parse_logic("input a\nbit x 0\nx := " + "( " * many + "a" + " )" * many)
            self.assertEqual(logic.statements, (("set", "x", ("name", "a")),))


class WritingTest(unittest.TestCase):
    def test_what_is_written(self):
        text = "timer t 2\ninput b\nbit y 1\ninput a\nbit x 0\nx := ( a ) and ( b and t )\nt counts ( not a )"
        expected = "input b\ninput a\ntimer t 2\nbit y 1\nbit x 0\nx := a and ( b and t )\nt counts not a"
        self.assertEqual(format_logic(parse_logic(text)), expected)

    def test_texts_of_this_form_stay(self):
        for text in (EXAMPLE, DECLARED, "input a", "bit x 1", "timer t 999", "bit x 0\nx := not x"):
            self.assertEqual(format_logic(parse_logic(text)), text)

    def test_there_and_back(self):
        random = Random(31)
        for _ in range(300):
            logic = parse_logic(random_logic_text(random))
            again = parse_logic(format_logic(logic))
            self.assertTrue(again == logic)
            self.assertFalse(again != logic)
            self.assertEqual(fields(again), fields(logic))

    def test_equality_looks_at_every_field(self):
        logic = parse_logic(EXAMPLE)
        for other in (
            "input b\nbit x 0\ntimer t 2\nt counts b\nx := t or x and not b",
            "input a\nbit x 1\ntimer t 2\nt counts a\nx := t or x and not a",
            "input a\nbit x 0\ntimer t 3\nt counts a\nx := t or x and not a",
            "input a\ntimer t 2\nbit x 0\nt counts a\nx := t or x and not a",
            "input a\nbit x 0\ntimer t 2\nx := t or x and not a\nt counts a",
            "input a\nbit x 0\ntimer t 2\nt counts a",
            "input a\ninput b\nbit x 0\ntimer t 2\nt counts a\nx := t or x and not a",
        ):
            self.assertFalse(logic == parse_logic(other), other)
            self.assertTrue(logic != parse_logic(other), other)
        self.assertTrue(logic == parse_logic(EXAMPLE))

    def test_only_one_field_differs(self):
        one = parse_logic("bit x 0\nbit y 0\ntimer t 1")
        self.assertFalse(one == parse_logic("bit x 0\ntimer t 1\nbit y 0"))
        self.assertFalse(parse_logic("input a\nbit x 0") == parse_logic("input b\nbit x 0"))

    def test_a_logic_is_no_other_thing(self):
        logic = parse_logic(EXAMPLE)
        for other in (None, 0, EXAMPLE, fields(logic)):
            self.assertFalse(logic == other)


class ScanTest(unittest.TestCase):
    def test_first(self):
        self.assertEqual(parse_logic("bit x 0\ntimer t 5\nbit y 1\nbit z 0\nbit w 1").first(), (0, 0, 1, 0, 1))
        self.assertEqual(parse_logic("input a").first(), ())

    def test_statements_are_done_one_after_the_other(self):
        logic = parse_logic("input a\nbit x 0\nbit y 0\nbit z 0\nz := x\nx := a\ny := x")
        self.assertEqual(logic.scan((0, 0, 0), (1,)), (1, 1, 0))
        self.assertEqual(logic.scan((1, 1, 0), (0,)), (0, 0, 1))

    def test_several_statements_for_one_bit(self):
        logic = parse_logic("input a\nbit x 0\nbit y 0\nx := a\ny := x\nx := not a")
        self.assertEqual(logic.scan((0, 0), (1,)), (0, 1))
        self.assertEqual(logic.scan((0, 0), (0,)), (1, 0))

    def test_bits_without_a_statement_stay(self):
        logic = parse_logic("bit x 0\nbit y 1\ntimer t 4")
        for memory in product((0, 1), (0, 1), range(5)):
            self.assertEqual(logic.scan(memory, ()), memory)

    def test_timers(self):
        logic = parse_logic("input a\ntimer t 3\nt counts a")
        self.assertEqual([logic.scan((count,), (1,)) for count in range(4)], [(1,), (2,), (3,), (3,)])
        self.assertEqual([logic.scan((count,), (0,)) for count in range(4)], [(0,)] * 4)

    def test_timers_in_conditions(self):
        logic = parse_logic("input a\ntimer t 2\nbit x 0\nbit y 0\ny := t\nt counts a\nx := t")
        self.assertEqual(logic.scan((0, 0, 0), (1,)), (1, 0, 0))
        self.assertEqual(logic.scan((1, 0, 0), (1,)), (2, 1, 0))
        self.assertEqual(logic.scan((2, 1, 0), (1,)), (2, 1, 1))
        self.assertEqual(logic.scan((2, 1, 1), (0,)), (0, 0, 1))

    def test_a_timer_may_count_several_times(self):
        logic = parse_logic("input a\ntimer t 3\nt counts a\nt counts a or t\nt counts 1")
        self.assertEqual(logic.scan((0,), (1,)), (3,))
        self.assertEqual(logic.scan((0,), (0,)), (1,))

    def test_a_timer_that_counts_itself(self):
        logic = parse_logic("timer t 2\nt counts not t")
        self.assertEqual([logic.scan((count,), ()) for count in range(3)], [(1,), (2,), (0,)])

    def test_against_a_plain_scan(self):
        random = Random(32)
        for _ in range(200):
            logic = parse_logic(random_logic_text(random))
            memory = logic.first()
            for _ in range(12):
                inputs = (random.randint(0, 1), random.randint(0, 1))
                expected = plain_scan(logic, memory, inputs)
                self.assertEqual(logic.scan(memory, inputs), expected)
                memory = expected

    def test_nothing_is_kept_between_scans(self):
        logic = parse_logic(EXAMPLE)
        first = logic.first()
        for _ in range(3):
            self.assertEqual(logic.scan((0, 1), (1,)), (1, 2))
            self.assertEqual(logic.first(), first)

    def test_tuples_of_a_wrong_length(self):
        logic = parse_logic("input a\ninput b\nbit x 0\ntimer t 2")
        for values, inputs in ((1, 2), (3, 2), (2, 1), (2, 3), (0, 0), (1, 3), (3, 1)):
            self.assertRaises(NotFitting, logic.scan, (0,) * values, (0,) * inputs)
        self.assertEqual(logic.scan((0, 0), (0, 0)), (0, 0))

    def test_many_statements_and_deep_conditions(self):
        text = format_condition(nested("or", 60))
        lines = ["input a", "input b", "bit x 0"] + [f"x := {text}"] * 400
        logic = parse_logic("\n".join(lines))
        for a, b in product((0, 1), repeat=2):
            self.assertEqual(logic.scan((0,), (a, b)), (a | b,))


class ValueTest(unittest.TestCase):
    def test_bits_and_timers(self):
        logic = parse_logic("input a\nbit x 0\ntimer t 9\nbit y 1")
        self.assertEqual([logic.value((1, 5, 0), name) for name in ("x", "t", "y")], [1, 5, 0])
        self.assertEqual([logic.value((0, 9, 1), name) for name in ("x", "t", "y")], [0, 9, 1])

    def test_names_that_there_are_not(self):
        logic = parse_logic("input a\nbit x 0\ntimer t 9\nbit y 1")
        for name in ("a", "z", "", "X", "set"):
            with self.assertRaises(UnknownName) as caught:
                logic.value((0, 0, 0), name)
            self.assertEqual(caught.exception.name, name)


class ClassTest(unittest.TestCase):
    def test_kinds_of_the_fields(self):
        logic = parse_logic(EXAMPLE)
        self.assertIsInstance(logic, Logic)
        for field in fields(logic):
            self.assertIs(type(field), tuple)
        for pair in logic.bits + logic.timers + logic.statements:
            self.assertIs(type(pair), tuple)


if __name__ == "__main__":
    unittest.main()
