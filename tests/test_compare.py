import unittest
from itertools import product
from random import Random

from coastersafe.compare import compare
from coastersafe.errors import NotFitting, TooLarge, UnknownName
from coastersafe.logic import format_logic, parse_logic
from coastersafe.simple import cut_down, simplified
from logicsamples import random_logic_text

TOO_LARGE = "too large"
# Both count scans with a; the second one does so with two bits.
TIMER = "input a\ninput b\ntimer t 3\nbit x 0\nt counts a\nx := t"
BITS = "input a\ninput b\nbit x 0\nbit m 0\nbit k 0\nx := a and m and k or x and a\nm := a and k\nk := a"


def values_of(logic, memory, names):
    return [logic.value(memory, name) for name in names]


def plain_compare(first, second, names, limit):
    """What compare gives, with each run of each level, or TOO_LARGE."""
    def differ(pair):
        return values_of(first, pair[0], names) != values_of(second, pair[1], names)

    beginning = (first.first(), second.first())
    if differ(beginning):
        return ("different", [])
    known = {beginning: []}
    level = [beginning]
    while level:
        if len(known) > limit:
            return TOO_LARGE
        following, bad = [], []
        for pair in level:
            for inputs in product((0, 1), repeat=len(first.inputs)):
                after = (first.scan(pair[0], inputs), second.scan(pair[1], inputs))
                if differ(after):
                    bad.append(known[pair] + [inputs])
                if after not in known:
                    known[after] = known[pair] + [inputs]
                    following.append(after)
        if bad:
            return ("different", min(bad))
        level = following
    return ("same", sorted(known))


def told_compare(first, second, names, limit):
    try:
        return compare(first, second, names, limit=limit)
    except TooLarge as error:
        assert error.limit == limit
        return TOO_LARGE


class CompareTest(unittest.TestCase):
    def test_example_of_the_document(self):
        found = compare(parse_logic("input a\nbit x 0\nx := a"), parse_logic("input a\nbit x 0\nx := a or x"), ["x"])
        self.assertEqual(found, ("different", [(1,), (0,)]))

    def test_logics_that_do_the_same(self):
        timer, bits = parse_logic(TIMER), parse_logic(BITS)
        # The memories of the first are (t, x), those of the second (x, m, k).
        pairs = [((0, 0), (0, 0, 0)), ((1, 0), (0, 0, 1)), ((2, 0), (0, 1, 1)), ((3, 1), (1, 1, 1))]
        self.assertEqual(compare(timer, bits, ["x"]), ("same", pairs))
        self.assertEqual(compare(bits, timer, ["x"]), ("same", [(second, first) for first, second in pairs]))
        self.assertEqual(compare(timer, timer, ["x"])[1], [((t, x), (t, x)) for t, x in ((0, 0), (1, 0), (2, 0), (3, 1))])

    def test_a_difference_at_the_beginning(self):
        first = parse_logic("input a\nbit x 0\nbit y 1\nx := a")
        second = parse_logic("input a\nbit y 0\nbit x 0\nx := a")
        self.assertEqual(compare(first, second, ["y"]), ("different", []))
        self.assertEqual(compare(first, second, ["x", "y"]), ("different", []))
        self.assertEqual(compare(first, second, ["x"])[0], "same")

    def test_differences_after_one_and_several_scans(self):
        first = parse_logic(TIMER)
        for replaced, run in (
            (("x := t", "x := not t"), [(0, 0)]),
            (("x := t", "x := t or b"), [(0, 1)]),
            (("timer t 3", "timer t 2"), [(1, 0), (1, 0)]),
            (("timer t 3", "timer t 4"), [(1, 0)] * 3),
            (("x := t", "x := t and not b"), [(1, 0), (1, 0), (1, 1)]),
            (("t counts a", "t counts a and not b"), [(1, 0), (1, 0), (1, 1)]),
            (("t counts a", "t counts a or t"), [(1, 0)] * 3 + [(0, 0)]),
        ):
            second = parse_logic(TIMER.replace(*replaced))
            self.assertEqual(compare(first, second, ["x"]), ("different", run))
            self.assertEqual(compare(second, first, ["x"]), ("different", run))

    def test_no_names(self):
        first = parse_logic("input a\nbit x 0\nx := a")
        second = parse_logic("input a\nbit z 1\nz := z and not a")
        pairs = [((0,), (0,)), ((0,), (1,)), ((1,), (0,))]
        self.assertEqual(compare(first, second, []), ("same", pairs))

    def test_logics_without_inputs(self):
        first = parse_logic("bit x 0\ntimer t 4\nt counts 1\nx := t")
        second = parse_logic("bit x 0\ntimer t 3\nt counts 1\nx := t")
        self.assertEqual(compare(first, second, ["x"]), ("different", [(), (), ()]))
        self.assertEqual(compare(parse_logic("input a"), parse_logic("input a"), []), ("same", [((), ())]))

    def test_against_a_plain_search(self):
        random = Random(481)
        kinds = {}
        for number in range(600):
            lines = [line for line in random_logic_text(random).split("\n")]
            first = parse_logic("\n".join(lines))
            names = random.sample(["x", "y", "z"], random.randint(0, 3))
            other = random.choice([simplified(first), cut_down(first, names), None])
            if other is None:
                statements = random_logic_text(random).split("\n")[7:]
                other = parse_logic("\n".join(lines[:7] + (lines[7:] + statements if number % 2 else statements)))
            limit = random.choice([1, 2, 4, 7, 20, 20000])
            found = told_compare(first, other, names, limit)
            self.assertEqual(found, plain_compare(first, other, names, limit))
            kinds[found[0]] = kinds.get(found[0], 0) + 1
        self.assertEqual(len(kinds), 3)
        self.assertGreater(min(kinds.values()), 30)

    def test_not_fitting(self):
        first = parse_logic("input a\ninput b\nbit x 0")
        for text in (
            "input b\ninput a\nbit x 0", "input a\nbit x 0", "input a\ninput b\ninput c\nbit x 0", "bit x 0",
            "input a\ninput c\nbit x 0",
        ):
            for names in (["x"], ["q"], []):
                with self.assertRaises(NotFitting):
                    compare(first, parse_logic(text), names, limit=1)

    def test_unknown_names(self):
        first = parse_logic("input a\nbit x 0\nbit y 0\ntimer t 5\nbit z 1")
        second = parse_logic("input a\nbit x 1\ntimer y 3\ntimer t 5\nbit w 1")
        for names, name in (
            (["y"], "y"), (["x", "z"], "z"), (["w", "z"], "w"), (["t"], "t"), (["a", "q"], "a"), (["q", "a"], "q"),
            (["x", "x", "y"], "y"),
        ):
            for pair in ((first, second), (second, first)):
                with self.assertRaises(UnknownName) as caught:
                    compare(*pair, names, limit=1)
                self.assertEqual(caught.exception.name, name)
        self.assertEqual(compare(first, second, ["x"]), ("different", []))

    def test_too_large_goes_by_levels(self):
        # 1, 2, 4 and 8 pairs are reached by runs of at most 0, 1, 2 and 3 scans.
        text = "input a\nbit x 0\nbit y 0\nbit z 0\nz := y\ny := x\nx := a"
        first = parse_logic(text)
        for limit in range(1, 8):
            self.assertEqual(told_compare(first, first, ["z"], limit), TOO_LARGE)
        self.assertEqual(len(compare(first, first, ["z"], limit=8)[1]), 8)
        for limit, old, new, expected in (
            (1, "x := a", "x := 0", ("different", [(1,)])),
            (1, "y := x", "y := 0", TOO_LARGE),
            (2, "y := x", "y := 0", ("different", [(1,), (0,)])),
            (3, "z := y", "z := 0", TOO_LARGE),
            (4, "z := y", "z := 0", ("different", [(1,), (0,), (0,)])),
        ):
            second = parse_logic(text.replace(old, new))
            self.assertEqual(told_compare(first, second, ["x", "y", "z"], limit), expected)

    def test_the_limit_of_twenty_thousand(self):
        bits = [f"x{number}" for number in range(15)]
        lines = ["input a"] + [f"bit {name} 0" for name in bits]
        lines += [f"{name} := {before}" for before, name in list(zip(bits, bits[1:]))[::-1]] + ["x0 := a"]
        logic = parse_logic("\n".join(lines))
        with self.assertRaises(TooLarge) as caught:
            compare(logic, logic, ["x14"])
        self.assertEqual(caught.exception.limit, 20000)

    def test_twelve_inputs(self):
        names = "abcdefghijkl"
        lines = ["input " + name for name in names] + ["bit x 0"]
        first = parse_logic("\n".join(lines + ["x := " + " or ".join(names)]))
        second = parse_logic("\n".join(lines + ["x := not ( " + " and ".join([f"not {name}" for name in names]) + " )"]))
        third = parse_logic("\n".join(lines + ["x := " + " or ".join(names[:-1])]))
        self.assertEqual(compare(first, second, ["x"]), ("same", [((0,), (0,)), ((1,), (1,))]))
        self.assertEqual(compare(first, third, ["x"]), ("different", [(0,) * 11 + (1,)]))

    def test_the_arguments_stay(self):
        logic = parse_logic(TIMER)
        names = ["x", "x"]
        compare(logic, logic, names)
        self.assertEqual((names, format_logic(logic)), (["x", "x"], TIMER))


if __name__ == "__main__":
    unittest.main()
