"""Tests of test runs (points 72 and 73)."""

import unittest
from random import Random

from logicsamples import plain_goals, plainly_done, random_logic_text
from ridesamples import SMALL_RIDES, rides

from coastersafe.checker import reached
from coastersafe.control import standard_logic
from coastersafe.errors import NotFitting, TooLarge
from coastersafe.logic import parse_logic
from coastersafe.suites import goals_of, is_suite, suite
from coastersafe.uses import settled

EXAMPLE = parse_logic("input a\nbit x 0\nx := a and x or a\nx := x and not a")
TIMED = parse_logic("input a\ninput b\ntimer t 2\nbit x 0\nt counts a or b\nx := t and not a\nx := x and b")


def drawn_run(random, logic, count):
    return [tuple([random.randint(0, 1) for _ in logic.inputs]) for _ in range(count)]


class GoalsTest(unittest.TestCase):
    def test_the_example(self):
        self.assertEqual(goals_of(EXAMPLE, [(1,)]), [(0, 1), (1, 0)])
        self.assertEqual(suite(EXAMPLE), [((0, 0), [(0,)]), ((0, 1), [(1,)]), ((1, 0), [(0,)])])

    def test_by_hand(self):
        self.assertEqual(goals_of(TIMED, []), [])
        self.assertEqual(goals_of(TIMED, [(0, 0)]), [(0, 0), (1, 0), (2, 0)])
        self.assertEqual(goals_of(TIMED, [(0, 1), (1, 0)]), [(0, 1), (1, 0), (2, 0)])
        self.assertEqual(goals_of(TIMED, [(0, 1), (0, 1)]), [(0, 1), (1, 0), (1, 1), (2, 0), (2, 1)])
        self.assertEqual(goals_of(parse_logic("input a\nbit x 0"), [(1,), (0,)]), [])

    def test_conditions_are_met_when_they_are_done(self):
        logic = parse_logic("bit x 0\nbit y 0\nx := 1\ny := x\nx := 0\ny := x")
        self.assertEqual(goals_of(logic, [()]), [(0, 1), (1, 1), (2, 0), (3, 0)])

    def test_drawn_runs(self):
        random = Random(72)
        for _ in range(80):
            logic = parse_logic(random_logic_text(random))
            run = drawn_run(random, logic, random.randint(0, 8))
            met = set()
            memory = logic.first()
            for told in run:
                done, memory = plainly_done(logic, memory, told)
                met.update(enumerate(done))
            self.assertEqual(goals_of(logic, run), sorted(met))

    def test_wrong_lengths(self):
        for run in ([()], [(1,)], [(1, 0), (1, 0, 1)], [(0, 0), (1,), (0, 0)]):
            with self.assertRaises(NotFitting):
                goals_of(TIMED, run)


class SuiteTest(unittest.TestCase):
    def test_by_hand(self):
        self.assertEqual(suite(TIMED), [
            ((0, 0), [(0, 0)]), ((0, 1), [(0, 1)]),
            ((1, 0), [(0, 0)]), ((1, 1), [(0, 1), (0, 1)]),
            ((2, 0), [(0, 0)]), ((2, 1), [(0, 1), (0, 1)]),
        ])
        self.assertEqual(suite(parse_logic("input a\nbit x 0")), [])
        self.assertEqual(suite(parse_logic("bit x 0\nx := not x")), [((0, 0), [(), ()]), ((0, 1), [()])])

    def test_goals_that_cannot_be_met(self):
        logic = parse_logic("input a\nbit x 0\nbit y 1\nx := x and a\ny := y or a\nx := a and not a\ny := a or not a")
        goals = [((0, 0), [(0,)]), ((1, 1), [(0,)]), ((2, 0), [(0,)]), ((3, 1), [(0,)])]
        self.assertEqual(suite(logic), goals)

    def test_drawn_logics(self):
        random = Random(73)
        longest = 0
        for _ in range(80):
            logic = parse_logic(random_logic_text(random))
            found = suite(logic)
            self.assertEqual(found, list(plain_goals(logic).items()))
            longest = max([longest] + [len(run) for _, run in found])
            for goal, run in found:
                self.assertIn(goal, goals_of(logic, run))
            goals = dict(found)
            alone = [(at, value) for at, value in goals if (at, 1 - value) not in goals]
            self.assertEqual(settled(logic), alone)
        self.assertGreater(longest, 3)

    def test_a_suite_is_new(self):
        suite(EXAMPLE)[0][1].append((1,))
        suite(EXAMPLE).pop()
        self.assertEqual(suite(EXAMPLE), [((0, 0), [(0,)]), ((0, 1), [(1,)]), ((1, 0), [(0,)])])

    def test_a_standard_logic(self):
        logic = standard_logic(rides(SMALL_RIDES)[0])
        found = suite(logic)
        self.assertTrue(is_suite(logic, [run for _, run in found]))
        self.assertGreater(len(found), len(logic.statements))


class IsSuiteTest(unittest.TestCase):
    def test_by_hand(self):
        self.assertIs(is_suite(EXAMPLE, [[(0,)], [(1,)]]), True)
        self.assertIs(is_suite(EXAMPLE, [[(1,), (0,)]]), True)
        self.assertIs(is_suite(EXAMPLE, [[(0,)], []]), False)
        self.assertIs(is_suite(EXAMPLE, [[(1,), (1,)]]), False)
        self.assertIs(is_suite(EXAMPLE, []), False)
        self.assertIs(is_suite(parse_logic("input a\nbit x 0"), []), True)
        self.assertIs(is_suite(parse_logic("input a\nbit x 0"), [[]]), True)

    def test_drawn_logics(self):
        random = Random(74)
        answers = {}
        for _ in range(60):
            logic = parse_logic(random_logic_text(random))
            goals = plain_goals(logic)
            runs = list(goals.values())
            self.assertIs(is_suite(logic, runs), True)
            self.assertIs(is_suite(logic, [run for run in runs[::-1] for _ in (0, 1)]), True)
            for at in range(len(runs)):
                rest = runs[:at] + runs[at + 1:]
                met = {goal for run in rest for goal in goals_of(logic, run)}
                self.assertIs(is_suite(logic, rest), met == set(goals))
            for count in (1, 2, 5):
                others = [drawn_run(random, logic, 4) for _ in range(count)]
                met = {goal for run in others for goal in goals_of(logic, run)}
                self.assertIs(is_suite(logic, others), met == set(goals))
                answers[met == set(goals)] = True
        self.assertEqual(len(answers), 2)

    def test_wrong_lengths(self):
        for runs in ([[()]], [[(0, 1)]], [[(0,)], [(1,)], [(0,), (1, 1)]]):
            with self.assertRaises(NotFitting):
                is_suite(EXAMPLE, runs)


class LimitsTest(unittest.TestCase):
    def test_limits(self):
        random = Random(75)
        for _ in range(20):
            logic = parse_logic(random_logic_text(random))
            count = len(reached(logic))
            runs = [run for _, run in suite(logic)]
            self.assertEqual(suite(logic, limit=count), suite(logic))
            self.assertIs(is_suite(logic, runs, limit=count), True)
            if count > 1:
                for limit in (count - 1, 1):
                    for call in (
                        lambda: suite(logic, limit=limit),
                        lambda: is_suite(logic, runs, limit=limit),
                        lambda: is_suite(logic, [[(1,) * 7]], limit=limit),
                    ):
                        with self.assertRaises(TooLarge) as caught:
                            call()
                        self.assertEqual(caught.exception.limit, limit)

    def test_the_limit_that_is_not_told(self):
        # Such timers come to 20001 memories.
        logic = parse_logic("timer t 176\ntimer u 112\nt counts not t\nu counts not u")
        for call in (lambda: suite(logic), lambda: is_suite(logic, [[()]])):
            with self.assertRaises(TooLarge) as caught:
                call()
            self.assertEqual(caught.exception.limit, 20000)
        smaller = parse_logic("timer t 176\nt counts not t")
        self.assertEqual(suite(smaller), [((0, 0), [()] * 177), ((0, 1), [()])])


if __name__ == "__main__":
    unittest.main()
