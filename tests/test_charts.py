"""Tests of charts of runs (points 70 and 71)."""

import unittest
from random import Random

from logicsamples import plainly_done, random_logic_text
from textsamples import wrong_line

from coastersafe.charts import chart, is_true_chart, run_of_chart
from coastersafe.errors import NotFitting, UnknownName
from coastersafe.logic import parse_logic

EXAMPLE = parse_logic("input a\nbit x 0\ntimer t 2\nt counts a\nx := t")
LONGER = parse_logic("input a\ntimer t 4\nbit x 1\ninput b\ntimer u 1\nt counts a\nu counts b\nx := a and b")
RUN = [(1, 0), (1, 1), (1, 1), (1, 0), (1, 0), (0, 1)]
NO_INPUT = parse_logic("bit x 0\nx := not x")


class ChartTest(unittest.TestCase):
    def test_the_example(self):
        run = [(1,), (1,), (0,)]
        self.assertEqual(chart(EXAMPLE, run, ["a", "x", "t"]), "a --_\nx _-_\nt :^.")
        self.assertIs(is_true_chart(EXAMPLE, "x _-_\na --_"), True)

    def test_counts(self):
        self.assertEqual(
            chart(LONGER, RUN, ["t", "u", "x", "a", "b"]), "t :::^^.\nu .^^..^\nx _--___\na -----_\nb _--__-"
        )

    def test_names_in_any_order(self):
        self.assertEqual(chart(LONGER, RUN[:2], ["b"]), "b _-")
        self.assertEqual(chart(LONGER, RUN[:2], ["x", "b", "x", "a"]), "x _-\nb _-\nx _-\na --")

    def test_no_names_and_no_scans(self):
        self.assertEqual(chart(LONGER, RUN, []), "")
        self.assertEqual(chart(LONGER, [], []), "")
        self.assertEqual(chart(LONGER, [], ["x", "t", "a"]), "x \nt \na ")
        self.assertEqual(chart(NO_INPUT, [(), (), ()], ["x"]), "x -_-")

    def test_drawn_runs(self):
        random = Random(70)
        for _ in range(60):
            logic = parse_logic(random_logic_text(random))
            run = [(random.randint(0, 1), random.randint(0, 1)) for _ in range(random.randint(0, 9))]
            rows = {name: name + " " for name in logic.inputs + logic.order}
            memory = logic.first()
            for told in run:
                memory = plainly_done(logic, memory, told)[1]
                for name, value in zip(logic.inputs + logic.order, told + memory):
                    signs = {0: "_", 1: "-"}
                    if name in dict(logic.timers):
                        signs = {number: ":" for number in range(9)}
                        signs[0] = "."
                        signs[dict(logic.timers)[name]] = "^"
                    rows[name] += signs[value]
            names = random.sample(list(rows), random.randint(0, len(rows)))
            self.assertEqual(chart(logic, run, names), "\n".join([rows[name] for name in names]))

    def test_errors(self):
        for names, first in ((["d"], "d"), (["a", "x", "y", "z"], "y"), (["", "y"], ""), (["X"], "X")):
            for run in ([(1,)], [(1, 0)], []):
                with self.assertRaises(UnknownName) as caught:
                    chart(EXAMPLE, run, names)
                self.assertEqual(caught.exception.name, first)
        for run in ([()], [(1, 0)], [(1,), (0,), (0, 1)]):
            for names in (["a", "x"], []):
                with self.assertRaises(NotFitting):
                    chart(EXAMPLE, run, names)


class RunTest(unittest.TestCase):
    def test_lines_in_any_order(self):
        run = [(1, 0), (0, 0), (1, 1)]
        for text in ("a -_-\nb __-", "b __-\na -_-", "t .^:\nb __-\nx ---\na -_-\nu ^.:", "a -_-\nu :::\nb __-"):
            self.assertEqual(run_of_chart(LONGER, text), run)

    def test_no_signs(self):
        for text in ("a \nb ", "b \nt \nx \nu \na "):
            self.assertEqual(run_of_chart(LONGER, text), [])
            self.assertIs(is_true_chart(LONGER, text), True)

    def test_no_inputs(self):
        self.assertEqual(run_of_chart(NO_INPUT, "x -_-_"), [()] * 4)
        self.assertEqual(run_of_chart(NO_INPUT, "x "), [])
        self.assertIs(is_true_chart(NO_INPUT, "x -_-_"), True)
        self.assertIs(is_true_chart(NO_INPUT, "x _-_-"), False)
        self.assertEqual((run_of_chart(NO_INPUT, ""), is_true_chart(NO_INPUT, "")), ([], True))

    def test_drawn_charts_are_read_again(self):
        random = Random(71)
        for _ in range(60):
            logic = parse_logic(random_logic_text(random))
            run = [(random.randint(0, 1), random.randint(0, 1)) for _ in range(random.randint(0, 9))]
            names = list(logic.inputs) + random.sample(logic.order, random.randint(0, 5))
            random.shuffle(names)
            text = chart(logic, run, names)
            self.assertEqual(run_of_chart(logic, text), run)
            self.assertIs(is_true_chart(logic, text), True)
            self.check_changed(logic, text)

    def check_changed(self, logic, text):
        """One other sign in the line of a bit or a timer makes a chart false."""
        lines = text.split("\n")
        for at, line in enumerate(lines):
            name, signs = line.split(" ")
            for place, sign in enumerate(signs):
                for other in ".:^" if name in dict(logic.timers) else "_-":
                    changed = f"{name} {signs[:place]}{other}{signs[place + 1:]}"
                    same = "\n".join(lines[:at] + [changed] + lines[at + 1:])
                    if name in logic.order:
                        self.assertIs(is_true_chart(logic, same), other == sign)
                    else:
                        names = [row.split(" ")[0] for row in lines]
                        again = chart(logic, run_of_chart(logic, same), names)
                        self.assertIs(is_true_chart(logic, same), again == same)


class TrueChartTest(unittest.TestCase):
    def test_by_hand(self):
        for text, expected in (
            ("a --_\nx _-_\nt :^.", True), ("a --_", True), ("t :^.\na --_", True), ("x _-_\na --_", True),
            ("a --_\nx _--", False), ("a --_\nt :^:", False), ("a --_\nt ::.", False), ("a --_\nt .^.", False),
            ("a -__\nx _-_\nt :^.", False), ("x ___\na -__", True),
        ):
            self.assertIs(is_true_chart(EXAMPLE, text), expected)

    def test_a_sign_that_no_count_has(self):
        # The timer u with the limit 1 is always at 0 or at its limit.
        self.assertEqual(run_of_chart(LONGER, "a -\nb -\nu :"), [(1, 1)])
        self.assertIs(is_true_chart(LONGER, "a -\nb -\nu :"), False)


class WrongLinesTest(unittest.TestCase):
    def check(self, logic, line, *lines):
        for read in (run_of_chart, is_true_chart):
            self.assertEqual(wrong_line(read, logic, "\n".join(lines)), line, lines)

    def test_lines_of_no_form(self):
        for line in (
            "", " ", "a", "-_", "a-_", " a -_", "a  -_", "a -_ ", "a - _", "c -_", "A -_", "a,-_", "a\t-_", " -_",
            "a --,", "a 10", "a +_", "a -_\t", "set -_",
        ):
            self.check(LONGER, 1, line, "b -_")
            self.check(LONGER, 2, "b -_", line)
            self.check(LONGER, 4, "b -_", "x -_", "t ::", line, "a -_")

    def test_signs_of_another_kind(self):
        for name in ("a", "x"):
            for signs in (".-", "-^", ":_", "..", "^^", "  ", "--."):
                self.check(LONGER, 2, "b --", f"{name} {signs}")
        for signs in ("-.", "^_", "__", "--", " .", ". ", ".,"):
            self.check(LONGER, 2, "b --", f"t {signs}")

    def test_names_twice(self):
        self.check(LONGER, 2, "a --", "a --")
        self.check(LONGER, 3, "a --", "b --", "a --")
        self.check(LONGER, 4, "t ::", "a --", "b --", "t ::")

    def test_other_numbers_of_signs(self):
        self.check(LONGER, 2, "a --", "b -")
        self.check(LONGER, 2, "a --", "b ---")
        self.check(LONGER, 3, "a -", "b -", "t ")
        self.check(LONGER, 2, "a ", "b -")
        self.check(LONGER, 3, "a --", "b --", "x -_-")

    def test_inputs_without_a_line(self):
        self.check(LONGER, 2, "a --")
        self.check(LONGER, 4, "x --", "t ..", "b --")
        self.check(LONGER, 2, "x --")
        self.check(LONGER, 1, "")
        self.check(LONGER, 1, "", "")
        # A wrong line is told before.
        self.check(LONGER, 1, "a -:")
        self.check(LONGER, 2, "a --", "x")


if __name__ == "__main__":
    unittest.main()
