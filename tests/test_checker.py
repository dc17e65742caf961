import unittest
from itertools import product
from random import Random

from coastersafe.checker import breaks, check, is_invariant, reached
from coastersafe.errors import NotFitting, TooLarge, UnknownName
from coastersafe.logic import condition_value, parse_condition, parse_logic
from logicsamples import random_condition, random_logic_text

EXAMPLE = "input a\nbit x 0\nbit y 0\ny := x and a\nx := a"
# A chain: the bit z is 1 as soon as the timer has counted three scans with a, one after the other.
CHAIN = "input a\ninput b\ntimer t 3\nbit z 0\nt counts a\nz := t"
NAMES = ["i", "j", "x", "y", "z", "t", "u"]
TOO_LARGE = "too large"


def levels_of(logic):
    """For each number of scans the memories that are reached by so many scans and not by fewer, with their runs."""
    known = {logic.first(): []}
    level = [logic.first()]
    while level:
        yield level, known
        following = []
        for memory in level:
            for inputs in product((0, 1), repeat=len(logic.inputs)):
                after = logic.scan(memory, inputs)
                if after not in known:
                    known[after] = known[memory] + [inputs]
                    following.append(after)
        level = following


def plain_check(logic, condition, limit):
    """What check gives, with each run of each level, or TOO_LARGE."""
    known = {}
    for level, known in levels_of(logic):
        if len(known) > limit:
            return TOO_LARGE
        bad = []
        for memory in level:
            for inputs in product((0, 1), repeat=len(logic.inputs)):
                if condition_value(logic, logic.scan(memory, inputs), inputs, condition):
                    bad.append(known[memory] + [inputs])
        if bad:
            return ("broken", min(bad))
    return ("always", sorted(known))


def told_check(logic, condition, limit):
    try:
        return check(logic, condition, limit=limit)
    except TooLarge as error:
        assert error.limit == limit
        return TOO_LARGE


def least_run(logic, condition, longest):
    """The least of the shortest runs that break a condition, found by looking at all runs."""
    for length in range(1, longest + 1):
        steps = list(product((0, 1), repeat=len(logic.inputs)))
        for run in product(steps, repeat=length):
            if breaks(logic, condition, list(run)):
                return list(run)
    return None


class CheckTest(unittest.TestCase):
    def test_example_of_the_document(self):
        logic = parse_logic(EXAMPLE)
        found = [check(logic, parse_condition("y and not x")), check(logic, parse_condition("y and a"))]
        self.assertEqual(found, [("always", [(0, 0), (1, 0), (1, 1)]), ("broken", [(1,), (1,)])])

    def test_runs_of_several_scans(self):
        logic = parse_logic(CHAIN)
        self.assertEqual(check(logic, parse_condition("z")), ("broken", [(1, 0)] * 3))
        self.assertEqual(check(logic, parse_condition("z and b")), ("broken", [(1, 0), (1, 0), (1, 1)]))
        self.assertEqual(check(logic, parse_condition("t and not z"))[0], "always")
        self.assertEqual(check(logic, parse_condition("z and not a"))[0], "always")

    def test_the_values_are_those_after_the_scan(self):
        logic = parse_logic("input a\nbit x 1\nx := a")
        self.assertEqual(check(logic, parse_condition("not x")), ("broken", [(0,)]))
        self.assertEqual(check(logic, parse_condition("x and not a or a and not x")), ("always", [(0,), (1,)]))

    def test_a_condition_that_is_broken_at_once(self):
        logic = parse_logic(CHAIN)
        self.assertEqual(check(logic, ("value", 1)), ("broken", [(0, 0)]))
        self.assertEqual(check(logic, parse_condition("b")), ("broken", [(0, 1)]))

    def test_the_beginning_alone_breaks_nothing(self):
        self.assertEqual(check(parse_logic("bit x 1\nx := 0"), parse_condition("x")), ("always", [(0,), (1,)]))

    def test_logics_without_inputs_or_memory(self):
        logic = parse_logic("timer t 3\nt counts 1")
        self.assertEqual(check(logic, parse_condition("t")), ("broken", [(), (), ()]))
        self.assertEqual(check(logic, ("value", 0)), ("always", [(0,), (1,), (2,), (3,)]))
        self.assertEqual(check(parse_logic("input a"), ("value", 0)), ("always", [()]))
        self.assertEqual(check(parse_logic("input a"), ("name", "a")), ("broken", [(1,)]))

    def test_the_least_of_all_runs(self):
        random = Random(351)
        found = 0
        while found < 60:
            logic = parse_logic(random_logic_text(random))
            condition = random_condition(random, NAMES, 4)
            kind, run = check(logic, condition)
            if kind == "broken" and len(run) > 1:
                self.assertEqual(run, least_run(logic, condition, len(run)))
                found += 1

    def test_against_a_plain_search(self):
        random = Random(352)
        kinds = {}
        for _ in range(500):
            logic = parse_logic(random_logic_text(random))
            condition = random_condition(random, NAMES, random.randint(1, 5))
            limit = random.choice([1, 2, 3, 5, 8, 20000])
            found = told_check(logic, condition, limit)
            self.assertEqual(found, plain_check(logic, condition, limit))
            kinds[found[0]] = kinds.get(found[0], 0) + 1
        self.assertEqual(len(kinds), 3)
        self.assertGreater(min(kinds.values()), 20)

    def test_unknown_names(self):
        logic = parse_logic(CHAIN)
        for text, name in (("k", "k"), ("z and not ( l or k )", "l"), ("a or b and t or z or w and v", "w")):
            for call in (
                lambda: check(logic, parse_condition(text)),
                lambda: check(logic, parse_condition(text), limit=1),
                lambda: is_invariant(logic, parse_condition(text), [(9,)]),
                lambda: is_invariant(logic, parse_condition(text), []),
                lambda: breaks(logic, parse_condition(text), []),
                lambda: breaks(logic, parse_condition(text), [(1,)]),
            ):
                with self.assertRaises(UnknownName) as caught:
                    call()
                self.assertEqual(caught.exception.name, name)

    def test_too_large_goes_by_levels(self):
        # 1 memory, then 2, 4, 8 by at most 0, 1, 2 and 3 scans.
        logic = parse_logic("input a\nbit x 0\nbit y 0\nbit z 0\nz := y\ny := x\nx := a")
        for limit in range(1, 8):
            self.assertEqual(told_check(logic, ("value", 0), limit), TOO_LARGE)
        self.assertEqual(check(logic, ("value", 0), limit=8)[0], "always")
        for limit, text, expected in (
            (1, "x", ("broken", [(1,)])),
            (1, "y", TOO_LARGE),
            (2, "y", ("broken", [(1,), (0,)])),
            (3, "z", TOO_LARGE),
            (4, "z", ("broken", [(1,), (0,), (0,)])),
            (7, "z and not y", ("broken", [(1,), (0,), (0,)])),
        ):
            self.assertEqual(told_check(logic, parse_condition(text), limit), expected, (limit, text))

    def test_the_limit_of_twenty_thousand(self):
        bits = [f"x{number}" for number in range(15)]
        lines = ["input a"] + [f"bit {name} 0" for name in bits]
        lines += [f"{name} := {before}" for before, name in list(zip(bits, bits[1:]))[::-1]] + ["x0 := a"]
        logic = parse_logic("\n".join(lines))
        self.assertEqual(told_check(logic, ("value", 0), 20000), TOO_LARGE)
        with self.assertRaises(TooLarge) as caught:
            check(logic, ("value", 0))
        self.assertEqual(caught.exception.limit, 20000)
        with self.assertRaises(TooLarge) as caught:
            reached(logic)
        self.assertEqual(caught.exception.limit, 20000)
        self.assertEqual(len(check(logic, ("name", "x14"))[1]), 15)
        self.assertEqual(len(reached(logic, limit=2 ** 15)), 2 ** 15)

    def test_twelve_inputs(self):
        names = "abcdefghijkl"
        lines = ["input " + name for name in names] + ["bit x 0", "bit y 0"]
        lines += ["y := x and not a", "x := " + " and ".join(names)]
        logic = parse_logic("\n".join(lines))
        run = [(1,) * 12, (0,) * 11 + (1,)]
        self.assertEqual(check(logic, parse_condition("y and l")), ("broken", run))
        self.assertEqual(check(logic, parse_condition("x and y")), ("always", [(0, 0), (0, 1), (1, 0)]))
        latches = ["input " + name for name in names] + [f"bit x{name} 0" for name in names]
        logic = parse_logic("\n".join(latches + [f"x{name} := {name}" for name in names]))
        condition = parse_condition(" and ".join(["not xa"] + [f"x{name}" for name in names[1:]]))
        self.assertEqual(check(logic, condition), ("broken", [(0,) + (1,) * 11]))
        self.assertEqual(told_check(logic, ("value", 0), 4095), TOO_LARGE)

    def test_a_long_chain(self):
        logic = parse_logic("input a\ntimer t 999\nt counts not a")
        self.assertEqual(check(logic, parse_condition("t")), ("broken", [(0,)] * 999))


class InvariantTest(unittest.TestCase):
    def setUp(self):
        self.logic = parse_logic(CHAIN)
        self.never = parse_condition("t and not z")
        self.memories = check(self.logic, self.never)[1]

    def test_what_check_gives(self):
        self.assertEqual(self.memories, [(0, 0), (1, 0), (2, 0), (3, 1)])
        self.assertIs(is_invariant(self.logic, self.never, self.memories), True)
        self.assertIs(is_invariant(self.logic, self.never, self.memories[::-1]), True)

    def test_a_memory_left_out(self):
        for at in range(len(self.memories)):
            left = self.memories[:at] + self.memories[at + 1:]
            self.assertIs(is_invariant(self.logic, self.never, left), False)
        self.assertIs(is_invariant(self.logic, self.never, []), False)

    def test_a_memory_put_in(self):
        # From (2, 1) only memories of the list are reached; (3, 0) leads to (3, 1) and (0, 0).
        for more in ((2, 1), (3, 0), (0, 1)):
            self.assertIs(is_invariant(self.logic, self.never, self.memories + [more]), True)
        logic = parse_logic(EXAMPLE)
        self.assertIs(is_invariant(logic, parse_condition("y and not x"), [(0, 0), (1, 0), (1, 1), (0, 1)]), True)
        chain = parse_logic("input a\nbit x 0\nbit y 0\ny := y and not y or x and x\nx := x")
        self.assertIs(is_invariant(chain, ("value", 0), [(0, 0)]), True)
        self.assertIs(is_invariant(chain, ("value", 0), [(0, 0), (0, 1)]), True)
        self.assertIs(is_invariant(chain, ("value", 0), [(0, 0), (1, 0)]), False)

    def test_a_memory_doubled(self):
        self.assertIs(is_invariant(self.logic, self.never, self.memories * 2), True)
        self.assertIs(is_invariant(self.logic, self.never, self.memories + self.memories[:1]), True)

    def test_elements_that_are_no_memories(self):
        for wrong in ((), (0,), (0, 0, 0), (0, 2), (0, -1), (-1, 0), (4, 0), (999, 1)):
            self.assertIs(is_invariant(self.logic, self.never, self.memories + [wrong]), False, wrong)
            self.assertIs(is_invariant(self.logic, self.never, [wrong] + self.memories), False, wrong)

    def test_the_condition_is_looked_at_after_scans(self):
        self.assertIs(is_invariant(self.logic, parse_condition("z"), self.memories), False)
        self.assertIs(is_invariant(self.logic, parse_condition("a and b"), self.memories), False)
        logic = parse_logic("input a\nbit x 1\nx := 0")
        self.assertIs(is_invariant(logic, parse_condition("x"), [(0,), (1,)]), True)

    def test_drawn_logics(self):
        random = Random(371)
        kinds = {True: 0, False: 0}
        for _ in range(300):
            logic = parse_logic(random_logic_text(random))
            condition = random_condition(random, NAMES, 3)
            limits = dict(logic.timers)
            memories = [m for m in product(*[range(limits.get(name, 1) + 1) for name in logic.order])]
            if random.random() < 0.5:
                memories = random.sample(memories, random.randint(1, 10)) + [logic.first()]
            elif random.random() < 0.7:
                memories = reached(logic)
            expected = logic.first() in memories
            for memory in memories:
                for inputs in product((0, 1), repeat=2):
                    after = logic.scan(memory, inputs)
                    if after not in memories or condition_value(logic, after, inputs, condition):
                        expected = False
            self.assertIs(is_invariant(logic, condition, memories), expected)
            kinds[expected] += 1
        self.assertGreater(min(kinds.values()), 30)


class BreaksTest(unittest.TestCase):
    def setUp(self):
        self.logic = parse_logic(CHAIN)

    def test_only_the_last_scan_counts(self):
        condition = parse_condition("z and b")
        for run, expected in (
            ([(1, 1)] * 3, True),
            ([(1, 0), (1, 0), (1, 1)], True),
            ([(1, 1), (1, 1), (1, 0)], False),
            ([(1, 1)] * 2, False),
            ([(1, 1)] * 3 + [(0, 1)], False),
            ([(0, 1)] + [(1, 1)] * 3, True),
        ):
            self.assertIs(breaks(self.logic, condition, run), expected, run)

    def test_the_run_without_scans(self):
        self.assertIs(breaks(self.logic, ("value", 1), []), False)
        self.assertIs(breaks(parse_logic("bit x 1"), ("name", "x"), []), False)
        self.assertIs(breaks(parse_logic("bit x 1"), ("name", "x"), [()]), True)

    def test_wrong_lengths(self):
        for run in ([(1,)], [()], [(1, 1, 1)], [(1, 1), (1,)], [(1,), (1, 1)], [(1, 1)] * 3 + [(0, 0, 0)]):
            with self.assertRaises(NotFitting, msg=run):
                breaks(self.logic, ("value", 1), run)

    def test_a_long_run(self):
        self.assertIs(breaks(self.logic, ("name", "z"), [(1, 0)] * 5000), True)

    def test_the_arguments_stay(self):
        run = [(1, 1)] * 3
        memories = [(0, 0)]
        breaks(self.logic, ("name", "z"), run)
        is_invariant(self.logic, ("name", "z"), memories)
        self.assertEqual((run, memories), ([(1, 1)] * 3, [(0, 0)]))


class ReachedTest(unittest.TestCase):
    def test_reached(self):
        self.assertEqual(reached(parse_logic(EXAMPLE)), [(0, 0), (1, 0), (1, 1)])
        self.assertEqual(reached(parse_logic(CHAIN)), [(0, 0), (1, 0), (2, 0), (3, 1)])
        self.assertEqual(reached(parse_logic("bit x 1")), [(1,)])

    def test_limits(self):
        logic = parse_logic(CHAIN)
        self.assertEqual(len(reached(logic, limit=4)), 4)
        for limit in (1, 2, 3):
            with self.assertRaises(TooLarge) as caught:
                reached(logic, limit=limit)
            self.assertEqual(caught.exception.limit, limit)

    def test_drawn_logics(self):
        random = Random(372)
        for _ in range(150):
            logic = parse_logic(random_logic_text(random))
            known = {}
            for _, known in levels_of(logic):
                pass
            self.assertEqual(reached(logic), sorted(known))
            self.assertEqual(reached(logic, limit=len(known)), sorted(known))
            if len(known) > 1:
                with self.assertRaises(TooLarge):
                    reached(logic, limit=len(known) - 1)


if __name__ == "__main__":
    unittest.main()
