"""Tests of written verdicts of the check of a logic (points 62 and 63)."""

import unittest
from random import Random

from logicsamples import random_condition, random_logic_text
from textsamples import wrong_line

from coastersafe.checker import check
from coastersafe.errors import InvalidText, UnknownName
from coastersafe.logic import parse_condition, parse_logic
from coastersafe.verdicts import accepts, format_verdict, parse_verdict

NUMBERS = parse_logic("input a\ninput b\nbit x 0\ntimer t 12\nbit y 1")
ONE = parse_logic("input a\nbit x 0\nx := a")
NO_INPUT = parse_logic("bit x 0\nx := not x")
NO_MEMORY = parse_logic("input a")
# It goes on to 1 0, 1 1 and stays there.
STEPS = parse_logic("input a\nbit x 0\nbit y 0\ny := x or y\nx := a or x")


class FormTest(unittest.TestCase):
    def check(self, logic, verdict, text):
        self.assertEqual(format_verdict(verdict), text)
        self.assertEqual(parse_verdict(logic, text), verdict)

    def test_both_words(self):
        self.check(ONE, ("always", [(0,), (1,)]), "always\nmemory 0\nmemory 1")
        self.check(ONE, ("broken", [(1,), (0,), (1,)]), "broken\nscan 1\nscan 0\nscan 1")
        self.check(NUMBERS, ("always", [(0, 0, 1), (1, 12, 0)]), "always\nmemory 0 0 1\nmemory 1 12 0")
        self.check(NUMBERS, ("broken", [(0, 1), (1, 0)]), "broken\nscan 0 1\nscan 1 0")

    def test_nothing_behind_the_word(self):
        for logic in (ONE, NUMBERS, NO_INPUT, NO_MEMORY):
            for word in ("always", "broken"):
                self.check(logic, (word, []), word)

    def test_lines_without_numbers(self):
        self.check(NO_MEMORY, ("always", [()]), "always\nmemory")
        self.check(NO_INPUT, ("broken", [(), ()]), "broken\nscan\nscan")
        self.check(NO_INPUT, ("always", [(1,)]), "always\nmemory 1")
        self.check(NO_MEMORY, ("broken", [(1,)]), "broken\nscan 1")

    def test_memories_of_any_numbers(self):
        self.check(ONE, ("always", [(7,), (0,), (7,), (999999999,)]), "always\nmemory 7\nmemory 0\nmemory 7\nmemory 999999999")

    def test_verdicts_of_drawn_logics(self):
        random = Random(62)
        words = {}
        for _ in range(60):
            logic = parse_logic(random_logic_text(random))
            condition = random_condition(random, ["i", "x", "y", "z", "t", "u"], 4)
            verdict = check(logic, condition)
            words[verdict[0]] = True
            self.assertEqual(parse_verdict(logic, format_verdict(verdict)), verdict)
            self.assertIs(accepts(logic, condition, format_verdict(verdict)), True)
        self.assertEqual(len(words), 2)


class WrongLinesTest(unittest.TestCase):
    def test_the_word(self):
        for text in (
            "", "\n", " always", "always ", "Always", "always\n", "always 0", "never", "memory 0", "scan 0", "broken ",
            "broken scan 0", "always\n\nmemory 0", "\nalways", "same", "unsafe",
        ):
            line = 2 if text in ("always\n", "always\n\nmemory 0") else 1
            self.assertEqual(wrong_line(parse_verdict, ONE, text), line, text)

    def test_lines_behind_the_word(self):
        for line in (
            "", " ", "memory", "memory 0 0", "memory 0 1 0 0", "memory 0 01 0", "memory 0 +1 0", "memory 0 -1 0",
            "memory 0 1000000000 0", "memory  0 1 0", "memory 0  1 0", "memory 0 1 0 ", " memory 0 1 0", "scan 0 0",
            "memory 0 1 a", "Memory 0 1 0", "memory 0,1,0", "0 1 0", "always", "memory 0 1 0.0", "memory 0 00 0",
        ):
            for before in ("", "\nmemory 1 1 1", "\nmemory 5 6 7\nmemory 0 0 0"):
                text = f"always{before}\n{line}"
                self.assertEqual(wrong_line(parse_verdict, NUMBERS, text), text.count("\n") + 1, text)
                self.assertEqual(wrong_line(parse_verdict, NUMBERS, text + "\nmemory\nx"), text.count("\n") + 1, text)
        for line in (
            "", "scan", "scan 0", "scan 0 0 0", "scan 0 2", "scan 2 0", "scan 0 00", "scan 01 0", "scan 0 -1", "scan 0 +1",
            "scan  0 1", "scan 0  1", "scan 0 1 ", " scan 0 1", "memory 0 0 0", "scan 0 a", "0 1", "broken", "scan 01",
        ):
            for before in ("", "\nscan 1 1", "\nscan 0 1\nscan 1 0"):
                text = f"broken{before}\n{line}"
                self.assertEqual(wrong_line(parse_verdict, NUMBERS, text), text.count("\n") + 1, text)

    def test_numbers_where_there_are_none(self):
        self.assertEqual(wrong_line(parse_verdict, NO_MEMORY, "always\nmemory 0"), 2)
        self.assertEqual(wrong_line(parse_verdict, NO_MEMORY, "always\nmemory "), 2)
        self.assertEqual(wrong_line(parse_verdict, NO_INPUT, "broken\nscan 1"), 2)
        self.assertEqual(wrong_line(parse_verdict, NO_INPUT, "broken\nscan\nscan "), 3)


class AcceptsTest(unittest.TestCase):
    def check(self, expected, logic, condition, text):
        self.assertIs(accepts(logic, parse_condition(condition), text), expected, text)

    def test_the_example(self):
        self.check(True, ONE, "x and not a", "always\nmemory 0\nmemory 1")
        self.check(False, ONE, "x", "broken\nscan 0")

    def test_invariants(self):
        never = "y and not x"
        self.check(True, STEPS, never, "always\nmemory 0 0\nmemory 1 0\nmemory 1 1")
        # The order does not matter, and a memory may stand there twice.
        self.check(True, STEPS, never, "always\nmemory 1 1\nmemory 0 0\nmemory 1 0\nmemory 1 1")
        for text in (
            "always", "always\nmemory 0 0", "always\nmemory 1 0\nmemory 1 1", "always\nmemory 0 0\nmemory 1 1",
            "always\nmemory 0 0\nmemory 1 0", "always\nmemory 0 0\nmemory 1 0\nmemory 1 2",
            "always\nmemory 0 0\nmemory 1 0\nmemory 1 1\nmemory 2 1",
            "always\nmemory 0 0\nmemory 1 0\nmemory 1 1\nmemory 0 1",
        ):
            self.check(False, STEPS, never, text)
        whole = "always\nmemory 0 0\nmemory 1 0\nmemory 1 1"
        self.check(True, STEPS, "0", whole + "\nmemory 0 1")
        for condition in ("x", "y", "a", "not a", "x and y", "1", "a and not x or y"):
            self.check(False, STEPS, condition, whole)

    def test_runs(self):
        self.check(True, STEPS, "y", "broken\nscan 1\nscan 0")
        self.check(True, STEPS, "y", "broken\nscan 0\nscan 1\nscan 1\nscan 1")
        self.check(True, STEPS, "y and a", "broken\nscan 1\nscan 1")
        for text in ("broken", "broken\nscan 1", "broken\nscan 0\nscan 1", "broken\nscan 0\nscan 0"):
            self.check(False, STEPS, "y", text)
        self.check(False, STEPS, "y and a", "broken\nscan 1\nscan 0")
        self.check(False, STEPS, "0", "broken\nscan 1\nscan 0")
        # The condition is looked at after the last scan alone.
        self.check(False, ONE, "x", "broken\nscan 1\nscan 0")

    def test_the_other_word(self):
        self.check(False, ONE, "x", "always\nmemory 0\nmemory 1")
        self.check(False, NO_MEMORY, "a", "always\nmemory")
        self.check(True, NO_MEMORY, "a and not a", "always\nmemory")
        self.check(True, NO_INPUT, "not x", "broken\nscan\nscan")
        self.check(False, NO_INPUT, "not x", "broken\nscan")

    def test_changed_verdicts_of_drawn_logics(self):
        random = Random(63)
        for _ in range(60):
            logic = parse_logic(random_logic_text(random))
            condition = random_condition(random, ["i", "x", "y", "z", "t", "u"], 4)
            word, rows = check(logic, condition)
            if word == "always":
                # All of them are reached, so none may be left out.
                for at in range(len(rows)):
                    self.assertFalse(accepts(logic, condition, format_verdict((word, rows[:at] + rows[at + 1:]))))
                    self.assertTrue(accepts(logic, condition, format_verdict((word, rows + rows[at:at + 1]))))
                self.assertFalse(accepts(logic, condition, format_verdict((word, rows + [(2,) * 5]))))
            else:
                # It is a shortest one, so no part of it breaks the condition.
                for count in range(len(rows)):
                    self.assertFalse(accepts(logic, condition, format_verdict((word, rows[:count]))))

    def test_errors(self):
        condition = parse_condition("a or nobody and none")
        for text in ("always\nmemory 0", "always", "broken", "broken\nscan 1"):
            with self.assertRaises(UnknownName) as caught:
                accepts(ONE, condition, text)
            self.assertEqual(caught.exception.name, "nobody")
        for text, line in (("alway", 1), ("always\nmemory 0 0", 2), ("broken\nscan 0\nscan 2", 3), ("broken\n", 2)):
            with self.assertRaises(InvalidText) as caught:
                accepts(ONE, condition, text)
            self.assertEqual(caught.exception.line, line)


if __name__ == "__main__":
    unittest.main()
