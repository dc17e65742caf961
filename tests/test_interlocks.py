"""Tests of tables of interlocks (points 54 to 56)."""

import unittest
from itertools import combinations
from random import Random

from logicsamples import chained, nested, plain_value, random_condition
from textsamples import wrong_line

from coastersafe.checker import check, is_invariant
from coastersafe.errors import NotFitting
from coastersafe.interlocks import apart_condition, parse_table
from coastersafe.logic import format_condition, format_logic, parse_condition

EXAMPLE = "input a\ninput b\noutput x ask a permit not b\nlatch y ask b permit 1\napart x y"
A = ("name", "a")
X = ("name", "x")
Y = ("name", "y")


def not_name(name):
    return ("not", ("name", name))


def random_table(random):
    """The lines of some table: names of inputs, (kind, name, ask, permit) of outputs, and pairs."""
    inputs = ["a", "b", "c"][: random.randint(1, 3)]
    names = ["w", "x", "y", "z"][: random.randint(1, 4)]
    outputs = []
    for name in names:
        conditions = [random_condition(random, inputs + names, 3) for _ in range(2)]
        outputs.append((random.choice(["output", "latch"]), name, *conditions))
    pairs = [pair for pair in combinations(names, 2) if random.random() < 0.6]
    pairs = [pair[::-1] if random.random() < 0.5 else pair for pair in pairs]
    random.shuffle(pairs)
    return inputs, outputs, pairs


def written(inputs, outputs, pairs):
    lines = ["input " + name for name in inputs]
    for kind, name, ask, permit in outputs:
        lines.append(f"{kind} {name} ask {format_condition(ask)} permit {format_condition(permit)}")
    return "\n".join(lines + [f"apart {first} {second}" for first, second in pairs])


class FormTest(unittest.TestCase):
    def test_inputs_only(self):
        logic = parse_table("input a\ninput b2")
        self.assertEqual((logic.inputs, logic.bits, logic.timers), (("a", "b2"), (), ()))
        self.assertEqual((logic.statements, logic.order), ((), ()))

    def test_an_output_and_a_latch(self):
        logic = parse_table("input a\noutput x ask a permit not b or 1\nlatch b ask x and a permit 0")
        self.assertEqual(logic.inputs, ("a",))
        self.assertEqual((logic.bits, logic.timers, logic.order), ((("x", 0), ("b", 0)), (), ("x", "b")))
        permit = ("or", not_name("b"), ("value", 1))
        latched = ("or", ("and", X, A), ("name", "b"))
        self.assertEqual(
            logic.statements,
            (("set", "x", ("and", A, permit)), ("set", "b", ("and", latched, ("value", 0)))),
        )

    def test_no_input(self):
        logic = parse_table("output x ask 1 permit y\noutput y ask x permit y")
        self.assertEqual(logic.inputs, ())
        self.assertEqual(logic.statements, (("set", "x", ("and", ("value", 1), Y)), ("set", "y", ("and", X, Y))))

    def test_apart_outputs_in_the_order_of_the_outputs(self):
        outputs = "output x ask a permit a\nlatch y ask a permit a\noutput z ask a permit a"
        for pairs in ("apart z y\napart x z", "apart x z\napart y z", "apart z x\napart y z"):
            with self.subTest(pairs=pairs):
                logic = parse_table(f"input a\n{outputs}\n{pairs}")
                self.assertEqual(logic.statements[0][2], ("and", A, A))
                self.assertEqual(logic.statements[1][2], ("and", ("or", A, Y), A))
                inner = ("and", ("and", A, A), not_name("x"))
                self.assertEqual(logic.statements[2], ("set", "z", ("and", inner, not_name("y"))))

    def test_only_outputs_before_are_looked_at(self):
        logic = parse_table("output x ask 1 permit 1\noutput y ask 1 permit 1\napart y x")
        one = ("value", 1)
        self.assertEqual(logic.statements[0][2], ("and", one, one))
        self.assertEqual(logic.statements[1][2], ("and", ("and", one, one), not_name("x")))

    def test_words_of_tables_are_names(self):
        text = "input ask\ninput permit\noutput output ask ask permit permit\nlatch apart ask permit permit ask"
        logic = parse_table(text + "\napart apart output")
        ask, permit = ("name", "ask"), ("name", "permit")
        self.assertEqual(logic.statements[0], ("set", "output", ("and", ask, permit)))
        inner = ("and", ("or", permit, ("name", "apart")), ask)
        self.assertEqual(logic.statements[1], ("set", "apart", ("and", inner, not_name("output"))))
        deeper = parse_table("input permit\noutput x ask not permit and ( permit ) permit ( not permit or permit )")
        condition = parse_condition("not permit and permit and ( not permit or permit )")
        self.assertEqual(deeper.statements, (("set", "x", condition),))

    def test_drawn_tables(self):
        random = Random(54)
        for _ in range(150):
            inputs, outputs, pairs = random_table(random)
            logic = parse_table(written(inputs, outputs, pairs))
            names = [name for _, name, _, _ in outputs]
            self.assertEqual(logic.inputs, tuple(inputs))
            self.assertEqual(logic.bits, tuple([(name, 0) for name in names]))
            self.assertEqual((logic.timers, logic.order), ((), tuple(names)))
            for at, (kind, name, ask, permit) in enumerate(outputs):
                condition = ("and", ("or", ask, ("name", name)) if kind == "latch" else ask, permit)
                for other in names[:at]:
                    if (name, other) in pairs or (other, name) in pairs:
                        condition = ("and", condition, not_name(other))
                self.assertEqual(logic.statements[at], ("set", name, condition))
            self.assertEqual(len(logic.statements), len(outputs))


class WrongLinesTest(unittest.TestCase):
    def check(self, line, *lines):
        self.assertEqual(wrong_line(parse_table, "\n".join(lines)), line, lines)
        self.assertEqual(wrong_line(apart_condition, "\n".join(lines)), line, lines)

    def test_lines_of_no_form(self):
        for line in (
            "", " ", "input", "input  b", " input b", "input b ", "input b c", "input B", "input 1b", "input not",
            "input abcdefghijklm", "bit b 0", "timer t 3", "x := a", "x", "output", "latch", "apart", "a",
        ):
            self.check(2, "input a", line)
            self.check(1, line, "input a")

    def test_lines_of_outputs_of_another_form(self):
        for line in (
            "output x", "output x ask", "output x ask a", "output x ask a permit", "output x ask permit a",
            "output x permit a", "output x a permit a", "output x permit a ask a", "output x ask a ask a permit a",
            "output x ask a permit a permit a", "output x ask a permit permit a", "output x ask ask a permit a",
            "output x ask a a permit a", "output x ask a permit a a", "output x ask a permit a and",
            "output x ask not permit a", "output x ask ( a permit a )", "output x ask ( a permit a ) permit a",
            "output x ask 2 permit a", "output x ask a permit 01", "output  x ask a permit a",
            "output x ask a  permit a", "output x ask a permit a ", " output x ask a permit a", "output 1 ask a permit a",
            "output and ask a permit a", "outputs x ask a permit a", "Output x ask a permit a",
            "output ask a permit a", "output x asks a permit a", "output x ask a permits a",
        ):
            self.check(2, "input a", line)
            self.check(2, "input a", line.replace("output", "latch"))
            # So its name is not declared.
            self.check(2, "input a", "output y ask x permit 1", line)
            self.check(3, "input a", "output y ask a permit 1", "apart y x", line)
        self.check(3, "input a", "output y ask a permit 1", "apart y 1", "output 1 ask a permit a")

    def test_names_that_are_not_declared(self):
        self.check(2, "input a", "output x ask b permit a")
        self.check(2, "input a", "output x ask a permit a or not b")
        self.check(3, "input a", "output x ask a permit y", "output y ask z permit a")
        # An output whose conditions have a name that is not declared is declared itself.
        self.check(3, "input a", "output x ask y permit a", "output y ask z permit a", "apart x y")
        # An input that comes later is not.
        self.check(1, "output x ask a permit 1", "input a")

    def test_names_twice(self):
        self.check(2, "input a", "input a")
        self.check(2, "input a", "output a ask 1 permit 1")
        self.check(3, "input a", "output x ask a permit 1", "output x ask a permit 1")
        self.check(3, "input a", "output x ask a permit 1", "latch x ask 0 permit 1", "apart x x")

    def test_lines_in_the_wrong_part(self):
        output = "output x ask 1 permit 1"
        latch = "latch y ask 1 permit 1"
        self.check(2, output, "input a")
        self.check(3, "input b", latch, "input a")
        # The pair knows the output behind it, which is the wrong line.
        self.check(3, output, "apart x y", latch)
        self.check(4, output, latch, "apart x y", "input a")
        self.check(2, "apart x y", output, latch)
        self.check(2, "apart x y", "input a", output, latch)
        self.check(4, output, latch, "apart x y", output)

    def test_pairs(self):
        begin = ["input a", "output x ask a permit 1", "latch y ask a permit 1", "output z ask 1 permit 0"]
        for line in (
            "apart", "apart x", "apart x y z", "apart x x", "apart x a", "apart a x", "apart x u", "apart u x",
            "apart  x y", "apart x  y", "apart x y ", " apart x y", "apart X y", "Apart x y", "apart x not",
        ):
            self.check(5, *begin, line)
            self.check(6, *begin, "apart x z", line, "apart y x")
        self.check(6, *begin, "apart x y", "apart x y")
        self.check(6, *begin, "apart x y", "apart y x")
        self.check(8, *begin, "apart x y", "apart z y", "apart z x", "apart y z")
        self.assertIsNone(wrong_line(parse_table, "\n".join(begin + ["apart x y", "apart z y", "apart z x"])))

    def test_the_first_wrong_line_is_told(self):
        self.check(1, "inputs a", "output x ask b permit 1", "apart x x")
        self.check(2, "input a", "output x ask b permit 1", "apart x x")
        self.check(1, "")
        self.check(1, "\ninput a")
        self.check(3, "input a", "output x ask a permit a", "")


class LimitsTest(unittest.TestCase):
    def test_inputs(self):
        lines = [f"input i{number}" for number in range(61)]
        self.assertEqual(len(parse_table("\n".join(lines[:60])).inputs), 60)
        self.assertEqual(wrong_line(parse_table, "\n".join(lines)), 61)

    def test_outputs(self):
        lines = ["input a"] + [f"latch o{number} ask a permit o39" for number in range(40)]
        self.assertEqual(len(parse_table("\n".join(lines)).statements), 40)
        self.assertEqual(wrong_line(parse_table, "\n".join(lines + ["output o40 ask a permit a"])), 42)
        # The line that is one too many has its form, so its output is declared.
        lines[3] = "output o2 ask o40 permit 1"
        self.assertEqual(wrong_line(parse_table, "\n".join(lines + ["output o40 ask a permit a"])), 42)
        self.assertEqual(wrong_line(parse_table, "\n".join(lines)), 4)

    def test_pairs(self):
        outputs = [f"output o{number} ask 1 permit 1" for number in range(40)]
        pairs = [f"apart o{second} o{first}" for first, second in combinations(range(40), 2)]
        text = "\n".join(outputs + pairs[:200])
        self.assertEqual(len(parse_table(text).statements), 40)
        self.assertEqual(wrong_line(parse_table, "\n".join(outputs + pairs[:201])), 241)
        condition = apart_condition(text)
        depth = 1
        while condition[0] == "or":
            condition = condition[1]
            depth += 1
        self.assertEqual((depth, condition), (200, ("and", ("name", "o1"), ("name", "o0"))))


class DepthTest(unittest.TestCase):
    def table(self, condition, kind="output", place="ask"):
        deep = format_condition(condition)
        conditions = f"ask {deep} permit 1" if place == "ask" else f"ask 1 permit {deep}"
        return f"input a\ninput b\n{kind} x {conditions}"

    def test_conditions_that_are_deep_enough(self):
        for make in (chained, nested):
            for place in ("ask", "permit"):
                with self.subTest(make=make, place=place):
                    table = self.table(make("and", 59), "output", place)
                    deep = make("and", 59)
                    parts = (deep, ("value", 1)) if place == "ask" else (("value", 1), deep)
                    self.assertEqual(parse_table(table).statements[0][2], ("and", *parts))
                    self.assertEqual(wrong_line(parse_table, self.table(make("and", 60), "output", place)), 3)
                    self.assertEqual(wrong_line(parse_table, self.table(make("and", 61), "output", place)), 3)

    def test_latches_are_one_deeper(self):
        self.assertIsNone(wrong_line(parse_table, self.table(chained("or", 58), "latch")))
        self.assertEqual(wrong_line(parse_table, self.table(chained("or", 59), "latch")), 3)
        self.assertIsNone(wrong_line(parse_table, self.table(chained("or", 59), "latch", "permit")))
        self.assertEqual(wrong_line(parse_table, self.table(chained("or", 60), "latch", "permit")), 3)

    def test_a_line_that_is_too_deep_has_its_form(self):
        deep = format_condition(chained("not", 61))
        text = f"input a\noutput x ask y permit 1\noutput y ask {deep} permit 1"
        self.assertEqual(wrong_line(parse_table, text), 3)
        self.assertEqual(wrong_line(parse_table, "input a\noutput x ask y permit 1\noutput y ask z permit 1"), 3)

    def test_no_depth_stops_the_reader(self):
        for deep in ("not " * 200000 + "a", "( " * 100000 + "a" + " )" * 100000 + " and a" * 100000):
            text = f"input a\noutput x ask y permit 1\noutput y ask a permit {deep}"
            self.assertEqual(wrong_line(parse_table, text), 3)

    def test_pairs_that_make_a_condition_too_deep(self):
        deep = format_condition(chained("and", 57))
        lines = ["input a", "input b"] + [f"output o{number} ask 1 permit 1" for number in range(4)]
        lines += [f"output x ask {deep} permit 1", f"output y ask {deep} permit 1"]
        pairs = ["apart x o0", "apart o3 x", "apart o0 y", "apart y o2"]
        self.assertIsNone(wrong_line(parse_table, "\n".join(lines + pairs)))
        self.assertEqual(wrong_line(parse_table, "\n".join(lines + pairs + ["apart y o3"])), 8)
        self.assertEqual(wrong_line(parse_table, "\n".join(lines + pairs + ["apart o3 y", "apart x o1"])), 7)
        self.assertEqual(wrong_line(apart_condition, "\n".join(lines + pairs + ["apart y o3"])), 8)
        # Outputs behind one add nothing to its condition.
        self.assertIsNone(wrong_line(parse_table, "\n".join(lines + ["apart x y", "apart x o1", "apart o2 x"])))

    def test_such_a_line_is_told_last(self):
        deep = format_condition(chained("and", 59))
        lines = ["input a", "input b", "output x ask 1 permit 1", f"output y ask {deep} permit 1", "apart y x"]
        self.assertEqual(wrong_line(parse_table, "\n".join(lines)), 4)
        self.assertEqual(wrong_line(parse_table, "\n".join(lines + ["apart x y"])), 6)
        self.assertEqual(wrong_line(parse_table, "\n".join(lines + ["apart x x"])), 6)
        self.assertEqual(wrong_line(parse_table, "\n".join(lines + [""])), 6)

    def test_one_not_alone_makes_nothing_deep(self):
        text = "output x ask 1 permit 1\noutput y ask 1 permit 1\napart x y"
        self.assertEqual(format_condition(parse_table(text).statements[1][2]), "1 and 1 and not x")


class ApartConditionTest(unittest.TestCase):
    def test_one_pair_and_several(self):
        outputs = "\n".join([f"output {name} ask 1 permit 1" for name in "xyz"])
        one = ("and", X, Y)
        self.assertEqual(apart_condition(outputs + "\napart x y"), one)
        self.assertEqual(apart_condition(outputs + "\napart y x"), ("and", Y, X))
        other = ("and", ("name", "z"), Y)
        last = ("and", X, ("name", "z"))
        self.assertEqual(apart_condition(outputs + "\napart x y\napart z y"), ("or", one, other))
        self.assertEqual(
            apart_condition(outputs + "\napart z y\napart x y\napart x z"), ("or", ("or", other, one), last)
        )

    def test_no_pair(self):
        for text in ("input a", "input a\noutput x ask a permit a"):
            with self.assertRaises(NotFitting):
                apart_condition(text)

    def test_wrong_lines_come_first(self):
        self.assertEqual(wrong_line(apart_condition, "input a\noutput x ask b permit a"), 2)


class MeaningTest(unittest.TestCase):
    def test_the_example(self):
        condition = apart_condition(EXAMPLE)
        self.assertEqual(check(parse_table(EXAMPLE), condition), ("always", [(0, 0), (0, 1), (1, 0)]))
        self.assertEqual(
            format_logic(parse_table(EXAMPLE)).split("\n")[-2:],
            ["x := a and not b", "y := ( b or y ) and 1 and not x"],
        )

    def test_runs_of_drawn_tables(self):
        random = Random(56)
        for _ in range(120):
            inputs, outputs, pairs = random_table(random)
            logic = parse_table(written(inputs, outputs, pairs))
            values = {name: 0 for name in logic.order}
            memory = logic.first()
            for _ in range(12):
                told = tuple([random.randint(0, 1) for _ in inputs])
                memory = logic.scan(memory, told)
                values.update(zip(inputs, told))
                for kind, name, ask, permit in outputs:
                    is_asked = plain_value(ask, values) or (kind == "latch" and values[name])
                    others = [other for pair in pairs if name in pair for other in pair if other != name]
                    earlier = [other for other in others if logic.order.index(other) < logic.order.index(name)]
                    is_permitted = plain_value(permit, values)
                    is_free = not any(values[other] for other in earlier)
                    values[name] = int(bool(is_asked and is_permitted and is_free))
                    self.assertLessEqual(values[name], is_permitted)
                self.assertEqual(memory, tuple([values[name] for name in logic.order]))
                for first, second in pairs:
                    self.assertEqual(logic.value(memory, first) & logic.value(memory, second), 0)

    def test_checks_of_drawn_tables(self):
        random = Random(57)
        for _ in range(60):
            inputs, outputs, pairs = random_table(random)
            if pairs:
                text = written(inputs, outputs, pairs)
                kind, memories = check(parse_table(text), apart_condition(text))
                self.assertEqual(kind, "always")
                self.assertTrue(is_invariant(parse_table(text), apart_condition(text), memories))


if __name__ == "__main__":
    unittest.main()
