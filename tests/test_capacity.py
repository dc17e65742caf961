"""Tests of the capacity of rides (points 60 and 61)."""

import unittest
from fractions import Fraction
from random import Random

from ridesamples import GO, SMALL_RIDES, changed, logic_for, reckless, rides

from coastersafe.capacity import best_number, cycle, rate
from coastersafe.control import play, scanned, standard_logic
from coastersafe.errors import InvalidRide, NotFitting, TooLarge
from coastersafe.logic import parse_logic
from coastersafe.ride import Ride

LONGER_RIDES = [
    Ride([(1, 3), (2, 5), (1, 1), (4, 6)], 2, [3, 1]),
    Ride([(2, 2), (3, 8), (1, 9)], 3, [0, 2]),
    Ride([(1, 4)] * 5, 1, [4, 3, 2]),
    Ride([(1, 2)] * 6, 2, [5, 4, 3, 2, 1]),
]


def plain_scenes(ride, logic, late):
    """The scenes of a play until one comes again, and the number of that one."""
    scenes = [(ride.first(), logic.first())]
    while True:
        scene = scanned(ride, logic, *scenes[-1], GO, (late,) * len(ride.trains), None)
        if scene in scenes:
            return scenes, scenes.index(scene)
        scenes.append(scene)


def plain_rate(ride, logic, late):
    """The rate, by the moves of the trains in a play."""
    scenes, before = plain_scenes(ride, logic, late)
    states = play(ride, logic, [(GO, (late,) * len(ride.trains), None)] * len(scenes))
    station = ("held", len(ride.ways) - 1, 0)
    gone = 0
    for state, after in zip(([ride.first()] + states)[before:], states[before:]):
        gone += sum(old == station and new[0] == "over" for old, new in zip(state[0], after[0]))
    share = Fraction(gone, len(scenes) - before)
    return (share.numerator, share.denominator)


def all_open(blocks):
    return logic_for(blocks, [f"b{block}{letter} := 1" for block in range(blocks) for letter in "ab"])


def station_alone(blocks):
    """A logic that opens nothing but the station, as soon as `go` is 1."""
    return logic_for(blocks, [f"b{blocks - 1}{letter} := go" for letter in "ab"])


def blinking(blocks, limit):
    """A logic that opens all brakes now and then."""
    text = "\n".join(
        ["input " + name for name in logic_for(blocks).inputs]
        + [f"bit b{block}{letter} 0" for block in range(blocks) for letter in "ab"]
        + ["bit bars 0", f"timer t {limit}", "t counts not t"]
        + [f"b{block}{letter} := t" for block in range(blocks) for letter in "ab"]
    )
    return parse_logic(text)


def counting(*limits):
    """A logic with closed brakes and with timers that count over and over."""
    lines = ["input " + name for name in logic_for(2).inputs]
    lines += [f"bit b{block}{letter} 0" for block in (0, 1) for letter in "ab"] + ["bit bars 0"]
    lines += [f"timer t{number} {limit}" for number, limit in enumerate(limits)]
    return parse_logic("\n".join(lines + [f"t{number} counts not t{number}" for number in range(len(limits))]))


class CycleTest(unittest.TestCase):
    def test_the_example(self):
        opened = changed(logic_for(2), *[(f"bit b{name} 0", f"bit b{name} 1") for name in ("0a", "0b", "1a", "1b")])
        self.assertEqual(cycle(Ride([(1, 1), (1, 1)], 1, [1]), opened, 0), (0, 6))

    def test_standard_logics(self):
        for ride in rides(SMALL_RIDES) + LONGER_RIDES:
            for late in (0, 1):
                scenes, before = plain_scenes(ride, standard_logic(ride), late)
                self.assertEqual(cycle(ride, standard_logic(ride), late), (before, len(scenes) - before))

    def test_logics_of_few_lines(self):
        for ride in rides(SMALL_RIDES) + LONGER_RIDES:
            blocks = len(ride.ways)
            for logic in (logic_for(blocks), all_open(blocks), station_alone(blocks), blinking(blocks, 7)):
                for late in (0, 1):
                    scenes, before = plain_scenes(ride, logic, late)
                    self.assertEqual(cycle(ride, logic, late), (before, len(scenes) - before))

    def test_by_hand(self):
        # In each of two blocks it is over for 1 or 2 scans, on its way for 1 or 3, and held for 1.
        ride = Ride([(1, 3), (1, 3)], 2, [0])
        self.assertEqual(cycle(ride, all_open(2), 0), (1, 6))
        self.assertEqual(cycle(ride, all_open(2), 1), (1, 12))
        self.assertEqual(cycle(ride, logic_for(2), 0), (0, 1))
        # With the brakes closed, and bits that change once.
        changing = logic_for(2, ["x := y", "y := 1"], ["x", "y"])
        self.assertEqual(cycle(ride, changing, 0), (2, 1))

    def test_buttons(self):
        ride = Ride([(1, 1), (1, 1)], 1, [1])
        for word, expected in (("go", (1, 6)), ("stop", (0, 1)), ("open", (0, 1))):
            statements = [f"b{block}{letter} := {word}" for block in (0, 1) for letter in "ab"]
            self.assertEqual(cycle(ride, logic_for(2, statements), 0), expected)


class RateTest(unittest.TestCase):
    def test_standard_logics(self):
        for ride in rides(SMALL_RIDES) + LONGER_RIDES:
            for late in (0, 1):
                told = rate(ride, standard_logic(ride), late)
                self.assertEqual(told, plain_rate(ride, standard_logic(ride), late))
                self.assertGreater(told[0], 0)

    def test_logics_of_few_lines(self):
        for ride in rides(SMALL_RIDES) + LONGER_RIDES:
            blocks = len(ride.ways)
            for logic in (logic_for(blocks), all_open(blocks), station_alone(blocks), blinking(blocks, 9)):
                for late in (0, 1):
                    self.assertEqual(rate(ride, logic, late), plain_rate(ride, logic, late))

    def test_lowest_terms(self):
        ride = Ride([(1, 1)] * 4, 1, [1, 3])
        self.assertEqual(cycle(ride, all_open(4), 0)[1], 12)
        self.assertEqual(rate(ride, all_open(4), 0), (1, 6))
        self.assertEqual(rate(Ride([(1, 1)] * 4, 1, [2, 3]), all_open(4), 0), (1, 6))
        self.assertEqual(rate(Ride([(1, 1)] * 4, 1, [0, 2, 3]), all_open(4), 0), (1, 4))

    def test_a_rate_of_nothing(self):
        ride = Ride([(1, 3), (1, 3)], 2, [0])
        self.assertEqual(rate(ride, logic_for(2), 0), (0, 1))
        # What goes over before the first scene that comes again does not count.
        self.assertEqual(rate(Ride([(1, 3), (1, 3)], 2, [1]), station_alone(2), 1), (0, 1))
        # With a longer cycle, too.
        blinker = logic_for(2, ["x := not x"], ["x"])
        self.assertEqual((cycle(ride, blinker, 0), rate(ride, blinker, 0)), ((0, 2), (0, 1)))

    def test_only_the_station_counts(self):
        ride = Ride([(1, 1), (1, 1), (1, 1)], 1, [2])
        self.assertEqual(rate(ride, all_open(3), 0), (1, 9))
        ride = Ride([(1, 1), (1, 1), (1, 1)], 4, [2])
        self.assertEqual(rate(ride, all_open(3), 1), (1, 18))


class ErrorsTest(unittest.TestCase):
    def test_limits(self):
        for ride in rides(SMALL_RIDES) + LONGER_RIDES:
            for late in (0, 1):
                logic = standard_logic(ride)
                whole = sum(cycle(ride, logic, late))
                self.assertEqual(sum(cycle(ride, logic, late, limit=whole)), whole)
                self.assertEqual(rate(ride, logic, late, limit=whole), rate(ride, logic, late))
                for function in (cycle, rate):
                    for limit in (whole - 1, 1):
                        with self.assertRaises(TooLarge) as caught:
                            function(ride, logic, late, limit=limit)
                        self.assertEqual(caught.exception.limit, limit)

    def test_one_scan_is_enough_for_nothing(self):
        ride = Ride([(1, 1), (1, 1)], 1, [1])
        self.assertEqual(cycle(ride, logic_for(2), 0, limit=1), (0, 1))

    def test_the_limit_that_is_not_told(self):
        ride = Ride([(1, 1), (1, 1)], 1, [1])
        # Such a timer comes again after one more scan than its limit; 625 * 32 is 20000, and 177 * 113 is 20001.
        self.assertEqual(cycle(ride, counting(624, 31), 0), (0, 20000))
        self.assertEqual(rate(ride, counting(624, 31), 1), (0, 1))
        for function in (cycle, rate):
            with self.assertRaises(TooLarge) as caught:
                function(ride, counting(176, 112), 0)
            self.assertEqual(caught.exception.limit, 20000)

    def test_logics_that_do_not_fit(self):
        ride = Ride([(1, 1), (1, 1)], 1, [1])
        for logic in (parse_logic("input a\nbit x 0"), reckless(3)):
            for function in (cycle, rate):
                with self.assertRaises(NotFitting):
                    function(ride, logic, 0)
                with self.assertRaises(NotFitting):
                    function(ride, logic, 1, limit=0)


class BestNumberTest(unittest.TestCase):
    def plainly(self, ways, over, late):
        blocks = len(ways)
        rates = []
        for number in range(1, blocks):
            ride = Ride(ways, over, [blocks - 1 - at for at in range(number)])
            rates.append(Fraction(*plain_rate(ride, standard_logic(ride), late)))
        return rates.index(max(rates)) + 1

    def test_two_blocks(self):
        for ways, over in (([(1, 1), (1, 1)], 1), ([(1, 9), (2, 5)], 3)):
            for late in (0, 1):
                self.assertEqual(best_number(ways, over, late), 1)

    def test_drawn_rides(self):
        random = Random(61)
        found = {}
        for _ in range(40):
            ways = [tuple(sorted([random.randint(1, 9), random.randint(1, 9)])) for _ in range(random.randint(2, 6))]
            over = random.randint(1, 4)
            for late in (0, 1):
                best = best_number(ways, over, late)
                self.assertEqual(best, self.plainly(ways, over, late))
                found[best] = True
        self.assertGreater(len(found), 2)

    def test_the_least_of_equal_ones(self):
        # The long way lets a train pass only every so often: more trains do not help.
        ways = [(1, 1), (1, 1), (1, 1), (60, 60), (1, 1)]
        rates = []
        for number in range(1, 5):
            ride = Ride(ways, 1, list(range(5 - number, 5)))
            rates.append(rate(ride, standard_logic(ride), 0))
        self.assertEqual(rates[1], rates[2])
        self.assertEqual(best_number(ways, 1, 0), rates.index(max(rates, key=lambda pair: Fraction(*pair))) + 1)
        self.assertEqual(best_number(ways, 1, 0), 2)

    def test_no_limit(self):
        # With nine trains that are held elsewhere such a ride needs more than 10000 scans to come to its cycle.
        ways = [(99, 99), (1, 58), (60, 61), (48, 64), (26, 35), (86, 87), (96, 97)]
        self.assertEqual(best_number(ways, 17, 1), self.plainly(ways, 17, 1))

    def test_rides_that_are_not_valid(self):
        for ways, over in (
            ([], 1), ([(1, 1)], 1), ([(1, 1)] * 13, 1), ([(1, 1), (0, 1)], 1), ([(1, 1), (2, 1)], 1),
            ([(1, 1), (1, 100)], 1), ([(1, 1), (1, 1)], 0), ([(1, 1), (1, 1)], 21),
        ):
            for late in (0, 1):
                with self.assertRaises(InvalidRide):
                    best_number(ways, over, late)


if __name__ == "__main__":
    unittest.main()
