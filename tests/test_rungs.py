import unittest
from itertools import product
from random import Random

from coastersafe.compare import compare
from coastersafe.errors import InvalidText, NotFitting
from coastersafe.logic import format_logic, parse_condition, parse_logic
from coastersafe.rungs import format_rungs, parse_rungs
from logicsamples import random_condition
from ridesamples import copied

DECLARED = "input a\ninput b\nbit x 0\nbit y 1\ntimer t 3"
NAMES = ["a", "b", "x", "y", "t"]


def statement_of(rung):
    """The one statement of a text with a rung, and its condition as a text."""
    logic = parse_rungs(DECLARED + "\n" + rung)
    return format_logic(logic).split("\n")[5:]


DEEPER = {
    "first branch": "[ {} | b ]", "last branch": "[ b | {} ]",
    "begin": "[ {} x | b ]", "middle": "[ b | y {} x ]", "end": "[ b | x {} ]",
}


def deep_rung(depth, place="last branch"):
    """A rung with brackets within each other, at a place in the branches."""
    words = "a"
    for _ in range(depth):
        words = DEEPER[place].format(words)
    return words + " = x"


def plain_lets(words, values):
    """Whether contacts let through, read by descent; it takes well-formed rows only."""
    result = True
    while words and words[0] not in ("|", "]"):
        word = words.pop(0)
        if word == "[":
            lets = plain_lets(words, values)
            while words.pop(0) == "|":
                lets = plain_lets(words, values) or lets
        elif word[0] == "-":
            lets = not values[word[1:]]
        else:
            lets = bool(values[word])
        result = lets and result
    return result


def random_row(random, depth):
    parts = []
    for _ in range(random.randint(1, 3)):
        if depth and random.random() < 0.4:
            branches = [random_row(random, depth - 1) for _ in range(random.randint(2, 3))]
            parts.append("[ " + " | ".join(branches) + " ]")
        else:
            parts.append(random.choice(["", "-"]) + random.choice(NAMES))
    return " ".join(parts)


def rung_condition(random, depth):
    """A condition that can be written as contacts."""
    if depth == 1 or random.random() < 0.2:
        name = ("name", random.choice(NAMES))
        return random.choice([name, ("not", name)])
    return (random.choice(["and", "or"]), rung_condition(random, depth - 1), rung_condition(random, depth - 1))


class ParseTest(unittest.TestCase):
    def test_example_of_the_document(self):
        logic = parse_rungs("input a\nbit x 0\ntimer t 3\na [ -x | t ] = time t\na -t = set x")
        expected = "input a\nbit x 0\ntimer t 3\nt counts a and ( not x or t )\nx := x or a and not t"
        self.assertEqual(format_logic(logic), expected)

    def test_contacts(self):
        for rung, expected in (
            ("a = x", "x := a"),
            ("-a = x", "x := not a"),
            ("a b = x", "x := a and b"),
            ("-a b -y t x = x", "x := not a and b and not y and t and x"),
        ):
            self.assertEqual(statement_of(rung), [expected])
        logic = parse_rungs(DECLARED + "\na b -t = x")
        condition = ("and", ("and", ("name", "a"), ("name", "b")), ("not", ("name", "t")))
        self.assertEqual(logic.statements, (("set", "x", condition),))

    def test_brackets(self):
        for rung, expected in (
            ("[ a | b ] = x", "x := a or b"),
            ("[ a | b | -t ] = x", "x := a or b or not t"),
            ("[ a b | -x y ] = x", "x := a and b or not x and y"),
            ("[ a | b ] y = x", "x := ( a or b ) and y"),
            ("y [ a | b ] = x", "x := y and ( a or b )"),
            ("y [ a | b ] t = x", "x := y and ( a or b ) and t"),
            ("[ a | b ] [ x | y ] = x", "x := ( a or b ) and ( x or y )"),
            ("[ [ a | b ] | y ] = x", "x := a or b or y"),
            ("[ y | [ a | b ] ] = x", "x := y or ( a or b )"),
            ("[ [ a | b ] t | y ] = x", "x := ( a or b ) and t or y"),
            ("[ y | t [ a | b ] ] = x", "x := y or t and ( a or b )"),
            ("[ y | t [ a | b ] x | a ] = x", "x := y or t and ( a or b ) and x or a"),
            ("[ [ a | b ] [ x | y ] | t ] = x", "x := ( a or b ) and ( x or y ) or t"),
            ("[ a | [ b | [ x | y ] t ] -a ] = y", "y := a or ( b or ( x or y ) and t ) and not a"),
        ):
            self.assertEqual(statement_of(rung), [expected], rung)

    def test_coils(self):
        for rung, expected in (
            ("a b = set x", ("set", "x", parse_condition("x or a and b"))),
            ("a b = reset x", ("set", "x", parse_condition("x and not ( a and b )"))),
            ("a = reset y", ("set", "y", parse_condition("y and not a"))),
            ("a b = time t", ("count", "t", parse_condition("a and b"))),
            ("-a = x", ("set", "x", parse_condition("not a"))),
            ("[ a | b ] = set y", ("set", "y", ("or", ("name", "y"), ("or", ("name", "a"), ("name", "b"))))),
        ):
            self.assertEqual(parse_rungs(DECLARED + "\n" + rung).statements, (expected,))

    def test_names_that_are_words_of_coils(self):
        declared = "input set\nbit reset 0\ntimer time 2\nbit plain 1"
        for rung, expected in (
            ("set = reset", ("set", "reset", ("name", "set"))),
            ("set = set reset", ("set", "reset", ("or", ("name", "reset"), ("name", "set")))),
            ("time = reset reset", ("set", "reset", ("and", ("name", "reset"), ("not", ("name", "time"))))),
            ("set -reset = time time", ("count", "time", parse_condition("set and not reset"))),
        ):
            self.assertEqual(parse_rungs(declared + "\n" + rung).statements, (expected,))
        for rung in ("set = time", "set = set", "set = set time", "set = time reset", "set = plain reset"):
            with self.assertRaises(InvalidText, msg=rung):
                parse_rungs(declared + "\n" + rung)

    def test_fields(self):
        logic = parse_rungs("timer t 9\ninput b\nbit y 1\ninput a\nbit x 0\na -b = y\nt = reset x\ny = time t")
        self.assertEqual(logic.inputs, ("b", "a"))
        self.assertEqual(logic.bits, (("y", 1), ("x", 0)))
        self.assertEqual(logic.timers, (("t", 9),))
        self.assertEqual(logic.order, ("t", "y", "x"))
        self.assertEqual([statement[:2] for statement in logic.statements], [("set", "y"), ("set", "x"), ("count", "t")])
        text = "timer t 9\ninput b\nbit y 1\ninput a\nbit x 0\ny := a and not b\nx := x and not t\nt counts y"
        self.assertEqual(logic, parse_logic(text))
        self.assertEqual(parse_rungs(DECLARED), parse_logic(DECLARED))

    def test_drawn_rungs(self):
        random = Random(461)
        for _ in range(300):
            row = random_row(random, 3)
            logic = parse_rungs(DECLARED + "\n" + row + " = x")
            for inputs, x, y, t in product(product((0, 1), repeat=2), (0, 1), (0, 1), (0, 1, 3)):
                values = {"a": inputs[0], "b": inputs[1], "x": x, "y": y, "t": int(t == 3)}
                expected = int(plain_lets(row.split(" "), values))
                self.assertEqual(logic.scan((x, y, t), inputs), (expected, y, t), row)


class WrongTest(unittest.TestCase):
    def assert_wrong(self, text, line):
        with self.assertRaises(InvalidText, msg=repr(text)) as caught:
            parse_rungs(text)
        self.assertEqual(caught.exception.line, line, repr(text))

    def assert_wrong_rung(self, rung):
        self.assert_wrong(DECLARED + "\n" + rung, 6)
        self.assert_wrong(DECLARED + "\na = x\n" + rung, 7)
        self.assert_wrong(DECLARED + "\na = x\n" + rung + "\nq = x", 7)

    def test_brackets(self):
        for row in (
            "[ a | b", "[ a | b ] [ a | b", "[ a | [ b | x ]", "a | b ]", "a ]", "] a", "a | b", "[ a | b ] ]",
            "[ | b ]", "[ a | ]", "[ a | | b ]", "[ ]", "[ | ]", "[ a ]", "[ a b ]", "[ [ a | b ] ]", "a [ b ] x",
            "[ a | [ b ] ]", "[ a | [ b | ] ]", "| a", "a |", "[a | b]", "[ a | b ]a", "[ a |b ]", "[", "]", "|",
            "( a | b )", "[ a or b ]",
        ):
            self.assert_wrong_rung(row + " = x")

    def test_rows_and_coils(self):
        for rung in (
            "= x", " = x", "", " ", "a", "a =", "a = ", "a x", "a = = x", "a == x", "a = x =", "a = x = y", "a := x",
            "x := a", "t counts a", "a = x y", "a = set", "a = set x y", "a = set set x", "a = reset", "a = time",
            "a = set = x", "a = Set x", "a = clear x", "a = = set x", "a =x", "a= x", "a=x", "set x = a", "a = -x",
            "a = set -x", "a = [ x ]", "a and b = x", "a = x and y", "not a = x", "a 1 = x", "0 = x", "a = 1",
        ):
            self.assert_wrong_rung(rung)

    def test_names(self):
        for rung in (
            "q = x", "a q = x", "-q = x", "[ a | q ] = x", "a = q", "a = set q", "a = reset q", "a = time q",
            "a = a", "a = t", "a = set t", "a = reset t", "a = set a", "a = reset a", "a = time x", "a = time a",
            "--a = x", "- a = x", "- = x", "a - = x", "-1 = x", "A = x", "a = X", "input = x", "-input = x",
        ):
            self.assert_wrong_rung(rung)

    def test_spaces(self):
        for rung in (
            " a = x", "a  b = x", "a = x ", "a  = x", "a =  x", "a = set  x", "a =  set x", "a = set x ", "[  a | b ] = x",
            "[ a  | b ] = x", "[ a | b  ] = x", "[ a | b ]  = x",
        ):
            self.assert_wrong_rung(rung)

    def test_declarations(self):
        self.assert_wrong("", 1)
        self.assert_wrong("\n" + DECLARED, 1)
        self.assert_wrong(DECLARED + "\n", 6)
        self.assert_wrong(DECLARED + "\na = x\nbit z 0", 7)
        self.assert_wrong(DECLARED + "\na = x\ninput c\nq = x", 7)
        self.assert_wrong(DECLARED + "\nbit a 0", 6)
        self.assert_wrong(DECLARED + "\ntimer u 0", 6)
        self.assert_wrong("a = x\n" + DECLARED, 1)
        self.assert_wrong("input a\na = x\nbit x 0", 2)

    def test_one_rung_too_many(self):
        self.assertEqual(len(parse_rungs(DECLARED + "\na = x" * 400).statements), 400)
        self.assert_wrong(DECLARED + "\na = x" * 401, 406)
        self.assert_wrong(DECLARED + "\na = x" * 500, 406)
        self.assert_wrong(DECLARED + "\na = x" * 399 + "\nq = x\na = x\na = x", 405)

    def test_depths(self):
        # A row of 60 contacts has the depth 60; "set" adds 1 to it, "reset" 2.
        for coil, most in (("x", 60), ("time t", 60), ("set x", 59), ("reset x", 58)):
            logic = parse_rungs(DECLARED + "\n" + " ".join(["a"] * most) + " = " + coil)
            self.assertEqual(len(logic.statements), 1)
            self.assert_wrong_rung(" ".join(["a"] * (most + 1)) + " = " + coil)
            logic = parse_rungs(DECLARED + "\n[ " + " | ".join(["a"] * most) + " ] = " + coil)
            self.assertEqual(len(logic.statements), 1)
            self.assert_wrong_rung("[ " + " | ".join(["a"] * (most + 1)) + " ] = " + coil)
        parse_rungs(DECLARED + "\n" + " ".join(["-a"] * 59) + " = x")
        self.assert_wrong_rung(" ".join(["-a"] * 60) + " = x")
        parse_rungs(DECLARED + "\n-a " + " ".join(["a"] * 58) + " = x")
        self.assert_wrong_rung("-a " + " ".join(["a"] * 59) + " = x")
        for row in ("a " * 5000, "[ " * 5000, "[ a | " * 5000, "[ " + "a | " * 5000 + "a ] "):
            self.assert_wrong_rung(row + "= x")

    def test_brackets_within_brackets(self):
        for place in ("first branch", "last branch"):
            for depth in (1, 29, 30):
                self.assertEqual(len(parse_rungs(DECLARED + "\n" + deep_rung(depth, place)).statements), 1)
            for depth in (31, 32, 100):
                self.assert_wrong_rung(deep_rung(depth, place))
        # Beside other contacts each bracket adds 2 or 3 to the depth of the condition.
        for place, most in (("begin", 29), ("end", 29), ("middle", 19)):
            for depth in (1, 2, most):
                self.assertEqual(len(parse_rungs(DECLARED + "\n" + deep_rung(depth, place)).statements), 1)
            self.assert_wrong_rung(deep_rung(most + 1, place))
        side = " ".join(["[ a | b ]"] * 40)
        self.assertEqual(len(parse_rungs(DECLARED + "\n" + side + " = x").statements), 1)


class FormatTest(unittest.TestCase):
    def rung(self, condition, kind="set", name="x"):
        logic = parse_logic(DECLARED)
        text = format_rungs(copied(logic, statements=((kind, name, condition),)))
        self.assertEqual(text.split("\n")[:5], DECLARED.split("\n"))
        return text.split("\n")[5]

    def test_each_kind_of_condition(self):
        for text, expected in (
            ("a", "a"),
            ("not a", "-a"),
            ("a and b", "a b"),
            ("a and b and not t", "a b -t"),
            ("a and ( b and t )", "a b t"),
            ("a or b", "[ a | b ]"),
            ("a or b or t", "[ a | b | t ]"),
            ("a or ( b or t )", "[ a | [ b | t ] ]"),
            ("a and b or not x and y", "[ a b | -x y ]"),
            ("( a or b ) and t", "[ a | b ] t"),
            ("t and ( a or b )", "t [ a | b ]"),
            ("( a or b ) and t or y or x", "[ [ a | b ] t | y | x ]"),
            ("a or ( b or x ) or ( y or t )", "[ a | [ b | x ] | [ y | t ] ]"),
            ("a or ( b or x or y ) and t", "[ a | [ b | x | y ] t ]"),
        ):
            self.assertEqual(self.rung(parse_condition(text)), expected + " = x")
            self.assertEqual(self.rung(parse_condition(text), "count", "t"), expected + " = time t")

    def test_declarations_and_several_rungs(self):
        text = "timer t 9\ninput b\nbit y 1\ninput a\nbit x 0\na -b = y\nt = reset x\ny = time t"
        expected = "input b\ninput a\ntimer t 9\nbit y 1\nbit x 0\na -b = y\nx -t = x\ny = time t"
        self.assertEqual(format_rungs(parse_rungs(text)), expected)
        self.assertEqual(format_rungs(parse_logic(DECLARED)), DECLARED)

    def test_what_can_be_read_again(self):
        random = Random(471)
        for _ in range(200):
            statements = []
            for _ in range(random.randint(0, 5)):
                kind, name = random.choice([("set", "x"), ("set", "y"), ("count", "t")])
                statements.append((kind, name, rung_condition(random, random.randint(1, 5))))
            logic = copied(parse_logic(DECLARED), statements=tuple(statements))
            again = parse_rungs(format_rungs(logic))
            self.assertEqual((again.inputs, again.bits, again.timers), (logic.inputs, logic.bits, logic.timers))
            self.assertEqual(again.order, logic.order)
            self.assertEqual(compare(logic, again, ["x", "y"])[0], "same")
            self.assertEqual(len(again.statements), len(logic.statements))
            for memory in product((0, 1), (0, 1), range(4)):
                for inputs in product((0, 1), repeat=2):
                    self.assertEqual(again.scan(memory, inputs), logic.scan(memory, inputs))

    def test_rungs_that_were_read_are_written_with_the_same_meaning(self):
        random = Random(472)
        for _ in range(200):
            text = DECLARED + "".join([f"\n{random_row(random, 2)} = x", f"\n{random_row(random, 2)} = time t"])
            logic = parse_rungs(text)
            again = parse_rungs(format_rungs(logic))
            for memory in product((0, 1), (0, 1), range(4)):
                for inputs in product((0, 1), repeat=2):
                    self.assertEqual(again.scan(memory, inputs), logic.scan(memory, inputs))

    def test_deep_conditions(self):
        left = right = ("name", "a")
        for number in range(59):
            left = (("and", "or")[number % 2], left, ("name", "b"))
            right = ("and", ("name", "b"), right)
        self.assertEqual(self.rung(right), "b " * 59 + "a = x")
        self.assertEqual(self.rung(left).count("["), 29)

    def test_not_fitting(self):
        for text in (
            "0", "1", "a and 1", "0 or a", "a and ( b or not x and 1 )", "not 1", "not ( a and b )", "not not a",
            "a or not ( b or x )", "b and not not not a", "not ( not a )", "a and not 0",
        ):
            for kind, name in (("set", "x"), ("count", "t")):
                with self.assertRaises(NotFitting, msg=text):
                    self.rung(parse_condition(text), kind, name)
        random = Random(473)
        for _ in range(100):
            condition = random_condition(random, NAMES, 4)
            try:
                text = self.rung(condition)
            except NotFitting:
                words = str(condition)
                self.assertTrue("value" in words or "'not', ('not'" in words or "'not', ('and'" in words
                                or "'not', ('or'" in words)
            else:
                self.assertNotIn("value", str(condition))
                self.assertEqual(parse_rungs(DECLARED + "\n" + text).statements[0][:2], ("set", "x"))


if __name__ == "__main__":
    unittest.main()
