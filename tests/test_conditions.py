import unittest
from random import Random

from coastersafe.errors import InvalidText, NotFitting, UnknownName
from coastersafe.logic import condition_value, format_condition, parse_condition, parse_logic
from logicsamples import bracketed, chained, nested, plain_value, plainly_read, random_condition, small_conditions

A, B, C = ("name", "a"), ("name", "b"), ("name", "c")
READ = {
    "0": ("value", 0),
    "1": ("value", 1),
    "a": A,
    "not a": ("not", A),
    "not not a": ("not", ("not", A)),
    "not 0": ("not", ("value", 0)),
    "a and b": ("and", A, B),
    "a or b": ("or", A, B),
    "a and b and c": ("and", ("and", A, B), C),
    "a or b or c": ("or", ("or", A, B), C),
    "a and ( b and c )": ("and", A, ("and", B, C)),
    "a or ( b or c )": ("or", A, ("or", B, C)),
    "a and b or c": ("or", ("and", A, B), C),
    "a or b and c": ("or", A, ("and", B, C)),
    "a and ( b or c )": ("and", A, ("or", B, C)),
    "( a or b ) and c": ("and", ("or", A, B), C),
    "not a and b": ("and", ("not", A), B),
    "not ( a and b )": ("not", ("and", A, B)),
    "not ( a or b )": ("not", ("or", A, B)),
    "not a or not b": ("or", ("not", A), ("not", B)),
    "a and not not b or c": ("or", ("and", A, ("not", ("not", B))), C),
    "a or b and c or a": ("or", ("or", A, ("and", B, C)), A),
    "not not ( a or b ) and c": ("and", ("not", ("not", ("or", A, B))), C),
}
NEEDLESS = {
    "( a )": "a",
    "( ( 1 ) )": "1",
    "( a and b )": "a and b",
    "( a and b ) and c": "a and b and c",
    "( a or b ) or c": "a or b or c",
    "( a and b ) or c": "a and b or c",
    "a or ( b and c )": "a or b and c",
    "not ( a )": "not a",
    "not ( not a )": "not not a",
    "( not a ) and b": "not a and b",
    "( not ( a or ( b ) ) )": "not ( a or b )",
}
WRONG = [
    "", " ", "a ", " a", "a  and b", "a and  b", "a and", "and a", "or", "not", "a not", "a not b", "not and a", "a b",
    "a and and b", "a or or b", "a and or b", "not a not", "a and not", "1 1", "2", "00", "01", "10", "-1", "a and 2",
    "( a", "a )", "( )", "()", "(a)", "( a ) )", "( ( a )", ") a (", "( a ) b", "a ( b )", "a and ( )", "not ( )",
    "( and a )", "( a and )", "[ a ]", "A", "aB", "a_b", "1a", "a-b", "-a", "a.b", "a&b", "AND", "a AND b",
    "input", "bit", "timer", "counts", "a and input", "abcdefghijklm", ":=", "a := b",
    "a\nb", "a\n", "\na", "a\tand b", "a and b\r",
]


def line_of(error):
    return error.exception.line


class ReadingTest(unittest.TestCase):
    def test_forms(self):
        for text, condition in READ.items():
            self.assertEqual(parse_condition(text), condition, text)

    def test_needless_brackets(self):
        for text, other in NEEDLESS.items():
            self.assertEqual(parse_condition(text), parse_condition(other), text)

    def test_wrong_ones(self):
        for text in WRONG:
            with self.assertRaises(InvalidText, msg=repr(text)) as caught:
                parse_condition(text)
            self.assertEqual(line_of(caught), 1)

    def test_names(self):
        for name in ("a", "z", "abcdefghijkl", "a1", "z9", "a00000000009", "inputs", "no", "nota", "an", "x0or"):
            self.assertEqual(parse_condition(name), ("name", name))
            self.assertEqual(parse_condition(f"not {name} or {name}"), ("or", ("not", ("name", name)), ("name", name)))

    def test_against_a_reader_by_descent(self):
        random = Random(21)
        words = ["a", "b", "0", "1", "and", "or", "not", "(", ")"]
        seen = 0
        for _ in range(20000):
            text = " ".join(random.choices(words, weights=[4, 4, 1, 1, 3, 3, 2, 2, 2], k=random.randint(1, 8)))
            try:
                expected = plainly_read(text)
            except (AssertionError, IndexError, ValueError):
                expected = None
            if expected is not None and self.has_words_as_names(expected):
                expected = None
            if expected is None:
                self.assertRaises(InvalidText, parse_condition, text)
            else:
                seen += 1
                self.assertEqual(parse_condition(text), expected, text)
        self.assertGreater(seen, 500)

    def has_words_as_names(self, condition):
        if condition[0] == "name":
            return condition[1] not in ("a", "b")
        return condition[0] != "value" and any(self.has_words_as_names(part) for part in condition[1:])


class DepthTest(unittest.TestCase):
    def test_depth_60_and_61(self):
        for word in ("and", "or", "not"):
            text = format_condition(chained(word, 60))
            self.assertEqual(parse_condition(text), chained(word, 60))
            text = format_condition(chained(word, 61))
            with self.assertRaises(InvalidText) as caught:
                parse_condition(text)
            self.assertEqual(line_of(caught), 1)

    def test_depth_of_a_value(self):
        for value in (0, 1):
            for word in ("and", "not"):
                condition = chained(word, 60, ("value", value))
                self.assertEqual(parse_condition(format_condition(condition)), condition)
                text = format_condition(chained(word, 61, ("value", value)))
                self.assertRaises(InvalidText, parse_condition, text)

    def test_depth_to_the_right(self):
        for word in ("and", "or"):
            self.assertEqual(parse_condition(format_condition(nested(word, 60))), nested(word, 60))
            self.assertRaises(InvalidText, parse_condition, format_condition(nested(word, 61)))

    def test_depth_is_that_of_the_deeper_part(self):
        for left, right in ((59, 59), (59, 3), (3, 59)):
            condition = ("and", chained("or", left), chained("not", right))
            self.assertEqual(parse_condition(format_condition(condition)), condition)
        for left, right in ((60, 60), (60, 3), (3, 60)):
            condition = ("and", chained("or", left), chained("not", right))
            self.assertRaises(InvalidText, parse_condition, format_condition(condition))

    def test_brackets_have_no_depth(self):
        for many in (61, 1000, 50000):
            self.assertEqual(parse_condition("( " * many + "a" + " )" * many), A)
            text = "not ( " * 59 + "( " * many + "a" + " )" * many + " )" * 59
            self.assertEqual(parse_condition(text), chained("not", 60))
            self.assertRaises(InvalidText, parse_condition, "( " * many + "a" + " )" * (many - 1))
            self.assertRaises(InvalidText, parse_condition, "( " * many + "a" + " )" * (many + 1))

    def test_very_long_texts_are_refused_all_the_same(self):
        many = 50000
        for text in ("not " * many + "a", "a and " * many + "a", "a or ( " * many + "a" + " )" * many, "( " * many):
            self.assertRaises(InvalidText, parse_condition, text)

    def test_wide_conditions(self):
        condition = A
        for _ in range(12):
            condition = ("and", condition, condition)
        self.assertEqual(parse_condition(format_condition(condition)), condition)


class WritingTest(unittest.TestCase):
    def test_forms(self):
        for text, condition in READ.items():
            self.assertEqual(format_condition(condition), text)

    def test_there_and_back(self):
        for condition in small_conditions():
            text = format_condition(condition)
            self.assertEqual(parse_condition(text), condition)
            self.assertEqual(plainly_read(text), condition)
            self.assertEqual(parse_condition(bracketed(condition)), condition)

    def test_there_and_back_with_deep_ones(self):
        random = Random(22)
        for _ in range(300):
            condition = random_condition(random, ["a", "b", "cd3"], random.randint(1, 9))
            self.assertEqual(plainly_read(format_condition(condition)), condition)
            self.assertEqual(parse_condition(format_condition(condition)), condition)

    def test_all_brackets_are_needed(self):
        for condition in small_conditions():
            words = format_condition(condition).split(" ")
            for begin, word in enumerate(words):
                if word != "(":
                    continue
                depth = 0
                for end in range(begin, len(words)):
                    depth += {"(": 1, ")": -1}.get(words[end], 0)
                    if depth == 0:
                        break
                without = words[:begin] + words[begin + 1:end] + words[end + 1:]
                self.assertNotEqual(plainly_read(" ".join(without)), condition, words)


class ValueTest(unittest.TestCase):
    def setUp(self):
        self.logic = parse_logic("input i\ninput j\nbit x 0\ntimer t 2\nbit y 1\ntimer u 1")

    def value(self, text, memory=(0, 0, 0, 0), inputs=(0, 0)):
        return condition_value(self.logic, memory, inputs, parse_condition(text))

    def test_values_and_names(self):
        self.assertEqual([self.value("0"), self.value("1")], [0, 1])
        for at, name in enumerate("ij"):
            for inputs in ((0, 0), (0, 1), (1, 0), (1, 1)):
                self.assertEqual(self.value(name, inputs=inputs), inputs[at])
        for x in (0, 1):
            for y in (0, 1):
                self.assertEqual(self.value("x", (x, 0, y, 0)), x)
                self.assertEqual(self.value("y", (x, 0, y, 0)), y)

    def test_timers(self):
        self.assertEqual([self.value("t", (0, count, 0, 0)) for count in (0, 1, 2)], [0, 0, 1])
        self.assertEqual([self.value("u", (0, 2, 0, count)) for count in (0, 1)], [0, 1])

    def test_all_small_conditions(self):
        for condition in small_conditions():
            for a in (0, 1):
                logic = parse_logic("input a\nbit x 0")
                expected = plain_value(condition, {"a": a})
                self.assertEqual(condition_value(logic, (0,), (a,), condition), expected)

    def test_random_conditions(self):
        random = Random(23)
        for _ in range(300):
            condition = random_condition(random, ["i", "j", "x", "t", "y", "u"], 6)
            inputs = tuple(random.randint(0, 1) for _ in range(2))
            memory = tuple(random.randint(0, most) for most in (1, 2, 1, 1))
            values = {
                "i": inputs[0], "j": inputs[1], "x": memory[0], "y": memory[2],
                "t": int(memory[1] == 2), "u": int(memory[3] == 1),
            }
            expected = plain_value(condition, values)
            self.assertEqual(condition_value(self.logic, memory, inputs, condition), expected)

    def test_tuples_of_a_wrong_length(self):
        for values, inputs in ((3, 2), (5, 2), (4, 1), (4, 3), (0, 0), (0, 2), (4, 0)):
            self.assertRaises(NotFitting, self.value, "x", (0,) * values, (0,) * inputs)
            self.assertRaises(NotFitting, self.value, "nothing", (0,) * values, (0,) * inputs)
        # Together they are as long as they should be.
        self.assertRaises(NotFitting, self.value, "x", (0,) * 3, (0,) * 3)
        self.assertRaises(NotFitting, self.value, "x", (0,) * 5, (0,))

    def test_unknown_names(self):
        for text, name in (
            ("z", "z"), ("x and z", "z"), ("z and q", "z"), ("0 and q or z", "q"), ("1 or z", "z"),
            ("not ( i or not q )", "q"), ("x or ( i and ( q or z ) )", "q"), ("z and z2", "z"),
        ):
            with self.assertRaises(UnknownName) as caught:
                self.value(text)
            self.assertEqual(caught.exception.name, name, text)

    def test_a_value_is_a_number(self):
        for text in ("x", "not x", "x and y", "x or y", "t", "1"):
            self.assertIs(type(self.value(text)), int)


if __name__ == "__main__":
    unittest.main()
