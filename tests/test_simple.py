import unittest
from itertools import product
from random import Random

from coastersafe.compare import compare
from coastersafe.errors import UnknownName
from coastersafe.logic import format_condition, format_logic, parse_condition, parse_logic
from coastersafe.simple import cut_down, needed, simplified, simplified_condition
from logicsamples import plain_value, random_condition, random_logic_text, small_conditions

NAMES = ["a", "b", "c"]


def rewritten(condition):
    """One use of a rule of point 49 somewhere in a condition, on the parts first, or None if there is none."""
    for at in range(1, len(condition)):
        if condition[0] in ("not", "and", "or"):
            part = rewritten(condition[at])
            if part is not None:
                return condition[:at] + (part,) + condition[at + 1:]
    zero, one = ("value", 0), ("value", 1)
    if condition[0] == "not":
        inner = condition[1]
        rules = [(inner == zero, one), (inner == one, zero), (inner[0] == "not", inner[1])]
    elif condition[0] in ("and", "or"):
        strong, weak = (zero, one) if condition[0] == "and" else (one, zero)
        left, right = condition[1:]
        rules = [
            (left == strong or right == strong, strong), (left == weak, right), (right == weak, left),
            (left == right, left), (right == ("not", left) or left == ("not", right), strong),
        ]
    else:
        rules = []
    for fits, result in rules:
        if fits:
            return result
    return None


def plainly_simplified(condition):
    while rewritten(condition) is not None:
        condition = rewritten(condition)
    return condition


class ConditionTest(unittest.TestCase):
    def assert_simple(self, text, expected):
        self.assertEqual(format_condition(simplified_condition(parse_condition(text))), expected, text)

    def test_example_of_the_document(self):
        self.assert_simple("a and not ( not a and 1 ) or b and not b", "a")

    def test_conditions_that_stay(self):
        for text in (
            "0", "1", "a", "not a", "a and b", "a or b", "a and not b", "not ( a and b )", "a and ( a or b )",
            "a and b or b and a", "a or a and b", "not a and not b", "not ( a or b ) and a", "a and b and a",
            "a or b or a", "a and b and not a",
        ):
            self.assert_simple(text, text)

    def test_each_rule(self):
        for text, expected in (
            ("not 0", "1"), ("not 1", "0"), ("not not a", "a"), ("not not not a", "not a"),
            ("0 and a", "0"), ("a and 0", "0"), ("1 and a", "a"), ("a and 1", "a"),
            ("1 or a", "1"), ("a or 1", "1"), ("0 or a", "a"), ("a or 0", "a"),
            ("a and a", "a"), ("a or a", "a"), ("not a and not a", "not a"),
            ("a and b or a and b", "a and b"), ("( a or b ) and ( a or b )", "a or b"),
            ("a and not a", "0"), ("not a and a", "0"), ("a or not a", "1"), ("not a or a", "1"),
            ("a and b and not ( a and b )", "0"), ("not ( a or b ) or ( a or b )", "1"),
            ("0 and 0", "0"), ("0 and 1", "0"), ("1 and 0", "0"), ("1 and 1", "1"),
            ("0 or 0", "0"), ("0 or 1", "1"), ("1 or 0", "1"), ("1 or 1", "1"),
        ):
            self.assert_simple(text, expected)

    def test_the_parts_come_first(self):
        for text, expected in (
            ("not ( a and 0 )", "1"), ("not ( 1 and not a )", "a"), ("not ( not a or 0 )", "a"),
            ("a and ( b or not b )", "a"), ("( a or 0 ) and ( 1 and a )", "a"),
            ("a and not ( a and 1 )", "0"), ("not ( a and a ) or a", "1"), ("( a or a ) and not not b", "a and b"),
            ("not not a and not a", "0"), ("not ( b and not b ) and a", "a"),
            ("( a and 1 or 0 ) and not not ( a or a )", "a"), ("a or b and ( a and not a )", "a"),
        ):
            self.assert_simple(text, expected)

    def test_all_small_conditions(self):
        for condition in small_conditions():
            self.assertEqual(simplified_condition(condition), plainly_simplified(condition))

    def test_drawn_conditions(self):
        random = Random(491)
        for _ in range(500):
            condition = random_condition(random, NAMES[:random.randint(1, 3)], 6)
            found = simplified_condition(condition)
            self.assertEqual(found, plainly_simplified(condition))
            self.assertEqual(simplified_condition(found), found)
            for numbers in product((0, 1), repeat=3):
                values = dict(zip(NAMES, numbers))
                self.assertEqual(plain_value(found, values), plain_value(condition, values))

    def test_deep_conditions(self):
        condition = ("name", "a")
        for _ in range(59):
            condition = ("not", condition)
        self.assertEqual(simplified_condition(condition), ("not", ("name", "a")))
        for _ in range(60):
            condition = ("and", ("value", 1), condition)
        self.assertEqual(simplified_condition(condition), ("not", ("name", "a")))


class LogicTest(unittest.TestCase):
    def test_simplified(self):
        text = "input a\ntimer t 2\nbit x 1\nbit y 0\nx := a and 1\nt counts not not x or 0\ny := y\nx := t or not t"
        expected = "input a\ntimer t 2\nbit x 1\nbit y 0\nx := a\nt counts x\ny := y\nx := 1"
        logic = parse_logic(text)
        self.assertEqual(simplified(logic), parse_logic(expected))
        self.assertEqual(format_logic(logic), text)

    def test_drawn_logics(self):
        random = Random(492)
        for _ in range(150):
            logic = parse_logic(random_logic_text(random))
            found = simplified(logic)
            self.assertEqual((found.inputs, found.bits, found.timers), (logic.inputs, logic.bits, logic.timers))
            self.assertEqual(found.order, logic.order)
            expected = [(kind, name, plainly_simplified(condition)) for kind, name, condition in logic.statements]
            self.assertEqual(list(found.statements), expected)
            self.assertEqual(compare(logic, found, ["x", "y", "z"])[0], "same")


CHAIN = "\n".join([
    "input a", "bit v 0", "bit w 1", "timer t 4", "bit x 0", "bit y 0", "bit z 0", "timer u 2",
    "x := y and not a", "y := t", "t counts w or a", "z := x", "u counts z and v", "w := 0", "w := w or a",
])


class NeededTest(unittest.TestCase):
    def setUp(self):
        self.logic = parse_logic(CHAIN)

    def test_through_several_others(self):
        for names, expected in (
            ([], []),
            (["v"], ["v"]),
            (["w"], ["w"]),
            (["t"], ["w", "t"]),
            (["y"], ["w", "t", "y"]),
            (["x"], ["w", "t", "x", "y"]),
            (["z"], ["w", "t", "x", "y", "z"]),
            (["u"], ["v", "w", "t", "x", "y", "z", "u"]),
            (["v", "y"], ["v", "w", "t", "y"]),
            (["y", "v", "y"], ["v", "w", "t", "y"]),
        ):
            self.assertEqual(needed(self.logic, names), expected, names)

    def test_every_statement_for_a_name_counts(self):
        logic = parse_logic("input a\nbit x 0\nbit y 0\nbit z 0\nbit w 0\nx := y\nx := z\nx := 0\ny := x")
        self.assertEqual(needed(logic, ["x"]), ["x", "y", "z"])
        self.assertEqual(needed(logic, ["y"]), ["x", "y", "z"])
        self.assertEqual(needed(logic, ["z"]), ["z"])

    def test_long_chains(self):
        lines = ["input a"] + [f"bit x{number} 0" for number in range(200)] + ["x0 := a"]
        lines += [f"x{number} := x{number - 1}" for number in range(1, 200)]
        logic = parse_logic("\n".join(lines))
        self.assertEqual(needed(logic, ["x150"]), [f"x{number}" for number in range(151)])
        self.assertEqual(len(cut_down(logic, ["x150"]).statements), 151)

    def test_cut_down(self):
        for names, expected in (
            (["y"], "input a\nbit w 1\ntimer t 4\nbit y 0\ny := t\nt counts w or a\nw := 0\nw := w or a"),
            (["v"], "input a\nbit v 0"),
            ([], "input a"),
            (["u"], CHAIN),
        ):
            found = cut_down(self.logic, names)
            self.assertEqual(found, parse_logic(expected))
            self.assertEqual(format_logic(found), expected)
        self.assertEqual(format_logic(self.logic), CHAIN)

    def test_cut_down_does_the_same(self):
        random = Random(501)
        smaller = 0
        for _ in range(200):
            logic = parse_logic(random_logic_text(random))
            names = random.sample(["x", "y", "z"], random.randint(0, 3))
            found = cut_down(logic, names + random.sample(["t", "u"], random.randint(0, 1)))
            self.assertEqual(compare(logic, found, names)[0], "same")
            smaller += len(found.order) < len(logic.order)
        self.assertGreater(smaller, 50)

    def test_unknown_names(self):
        for names, name in ((["q"], "q"), (["x", "a", "q"], "a"), (["x", "q", "a"], "q"), (["a"], "a")):
            for call in (needed, cut_down):
                with self.assertRaises(UnknownName) as caught:
                    call(self.logic, names)
                self.assertEqual(caught.exception.name, name)

    def test_the_list_stays(self):
        names = ["y", "v"]
        needed(self.logic, names)
        cut_down(self.logic, names)
        self.assertEqual(names, ["y", "v"])


if __name__ == "__main__":
    unittest.main()
