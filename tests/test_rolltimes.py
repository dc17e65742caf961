import unittest
from random import Random

from coastersafe.envelope import faults, passage_times, ride_of
from coastersafe.errors import BadNumber, NotFitting
from coastersafe.layout import Layout
from coastersafe.motion import greatest_energies, least_energies, metre_times, roll, way_times
from coastersafe.rolltimes import is_within, roll_times, scans_for
from coastersafe.train import Train
from samples import TRAIN, fleets, rounded

FLAT = [("coast", 20, 0), ("brake", 5, 0), ("coast", 4, 0), ("brake", 6, 0)]
SAFE = [("lift", 10, 0), ("brake", 5, 0), ("lift", 8, 0), ("brake", 5, 0)]


def plain_times(energies):
    low = high = 0
    for before, after in zip(energies, energies[1:]):
        least, greatest = metre_times(min(before, after), max(before, after))
        low, high = low + least, high + greatest
    return (low, high)


def driven(random):
    """A layout with lifts, hills and strong brakes, and a short train."""
    segments = []
    for _ in range(random.randint(2, 4)):
        segments.append(("lift", random.randint(3, 9), random.randint(-5, 30)))
        segments.append(("coast", random.randint(1, 5), random.randint(-20, 10)))
        segments.append(("brake", random.randint(5, 9), 0))
    energies = [random.choice([20000, 80000, 200000]) for _ in range(2)]
    train = Train(random.randint(1, 4), (0, random.randint(0, 2000)), (500000, 900000), *energies)
    return Layout(rounded(segments)), train


class RollTimesTest(unittest.TestCase):
    def setUp(self):
        self.layout = Layout(FLAT)

    def times(self, metre, energy, frictions, strengths=None):
        strengths = [None] * len(frictions) if strengths is None else strengths
        return roll_times(self.layout, TRAIN, metre, energy, frictions, strengths)

    def test_example_of_the_document(self):
        found = [self.times(0, 1000000, [100, 300]), scans_for(250000, 100000)]
        self.assertEqual(found, [(200000, 200202), (2, 3)])

    def test_no_metre(self):
        for metre in (0, 20, 34):
            self.assertEqual(self.times(metre, 1000000, []), (0, 0))
            self.assertEqual(self.times(metre, 0, []), (0, 0))

    def test_one_metre(self):
        self.assertEqual(self.times(0, 10000, [0]), (1000000, 1000000))
        self.assertEqual(self.times(0, 10000, [9999]), (1000000, 100000000))
        self.assertEqual(self.times(0, 1000000, [100]), metre_times(999900, 1000000))
        # The drive of the open brake makes the train faster: the begin has the less energy.
        self.assertEqual(self.times(20, 400, [0]), metre_times(400, 10000))

    def test_around_the_end_of_the_track(self):
        energies = [250000] + roll(self.layout, TRAIN, 33, 250000, [300, 200, 100, 0], [None] * 4)
        self.assertEqual(self.times(33, 250000, [300, 200, 100, 0]), plain_times(energies))
        frictions = [10] * 80
        energies = [4000000] + roll(self.layout, TRAIN, 30, 4000000, frictions, [None] * 80)
        self.assertEqual(self.times(30, 4000000, frictions), plain_times(energies))

    def test_closed_brakes(self):
        energies = [1000000, 799700, 599500]
        self.assertEqual(self.times(20, 1000000, [300, 200], [200000, 200000]), plain_times(energies))

    def test_energies_of_zero(self):
        self.assertIsNone(self.times(0, 0, [0]))
        self.assertIsNone(self.times(20, 0, [0]))
        self.assertIsNone(self.times(0, 100, [99, 1]))
        self.assertIsNotNone(self.times(0, 100, [99]))
        self.assertIsNone(self.times(0, 100, [100]))
        self.assertIsNone(self.times(20, 1000000, [0] * 5, [200000] * 5))
        self.assertIsNotNone(self.times(20, 1000000, [0] * 4, [200000] * 4))
        # It comes to stand in the coast, but the drive of the brake takes it along again.
        self.assertIsNone(self.times(18, 100, [100, 0, 0]))

    def test_drawn_rolls(self):
        random = Random(431)
        kinds = {True: 0, False: 0}
        for layout, train in fleets(43, 120):
            for _ in range(6):
                metre = random.randrange(layout.total())
                count = random.randint(0, 2 * layout.total())
                frictions = [random.randint(*train.friction) for _ in range(count)]
                strengths = [random.choice([None, random.randint(*train.brake)]) for _ in range(count)]
                energy = random.choice([0, 1, 5000, 200000, 9000000])
                energies = [energy] + roll(layout, train, metre, energy, frictions, strengths)
                expected = None if count and 0 in energies else plain_times(energies)
                self.assertEqual(roll_times(layout, train, metre, energy, frictions, strengths), expected)
                kinds[expected is None] += 1
        self.assertGreater(min(kinds.values()), 50)

    def test_errors(self):
        for metre, energy in ((-1, 5), (35, 5), (0, -1), (100, -5)):
            for frictions, strengths in (([], []), ([1], [None]), ([1], [])):
                with self.assertRaises(BadNumber):
                    self.times(metre, energy, frictions, strengths)
        for frictions, strengths in (([], [None]), ([1], []), ([1, 2], [None])):
            for energy in (0, 1, 1000000):
                with self.assertRaises(NotFitting):
                    self.times(0, energy, frictions, strengths)

    def test_the_lists_stay(self):
        frictions, strengths = [1, 2], [None, 5]
        self.times(0, 1000000, frictions, strengths)
        self.assertEqual((frictions, strengths), ([1, 2], [None, 5]))

    def test_a_long_roll(self):
        self.assertEqual(len(self.times(0, 1000000, [0] * 20000)), 2)


class SafeLayoutsTest(unittest.TestCase):
    """Point 44: rolls through the passage and the way of a block keep within their times."""

    def check_block(self, random, layout, train, block):
        begin, brake = layout.begin(block), layout.brake(block)
        least, greatest = least_energies(layout, train), greatest_energies(layout, train)
        whole = way_times(layout, train, block)
        passage = passage_times(layout, train, block)
        behind = begin + train.length
        ends = ((begin, behind, passage), (begin, brake, whole))
        for first, last, times in ends:
            for _ in range(20):
                energy = random.choice([least[first], greatest[first], random.randint(least[first], greatest[first])])
                chosen = random.choice([train.friction, (train.friction[0],) * 2, (train.friction[1],) * 2])
                frictions = [random.randint(*chosen) for _ in range(last - first)]
                found = roll_times(layout, train, first, energy, frictions, [None] * len(frictions))
                self.assertTrue(is_within(found, times), (found, times))

    def test_rolls(self):
        random = Random(441)
        checked = 0
        for _ in range(60):
            layout, train = driven(random)
            if not faults(layout, train):
                checked += 1
                for block in range(layout.blocks()):
                    self.check_block(random, layout, train, block)
        self.assertGreater(checked, 10)

    def test_scans_of_ways_and_passages(self):
        random = Random(442)
        layout, train = Layout(SAFE), Train(3, (0, 100), (200000, 250000), 10000, 10000)
        least, greatest = least_energies(layout, train), greatest_energies(layout, train)
        for scan in (1000000, 700000, 2999999):
            ride = ride_of(layout, train, scan, [1])
            for block in range(layout.blocks()):
                begin, brake = layout.begin(block) + train.length, layout.brake(block)
                for _ in range(20):
                    energy = random.randint(least[begin], greatest[begin])
                    frictions = [random.randint(*train.friction) for _ in range(brake - begin)]
                    times = roll_times(layout, train, begin, energy, frictions, [None] * len(frictions))
                    for time in times:
                        self.assertTrue(is_within(scans_for(time, scan), ride.ways[block]))
                self.assertLessEqual(scans_for(passage_times(layout, train, block)[1], scan)[1], ride.over)


class ScansTest(unittest.TestCase):
    def test_around_whole_numbers_of_scans(self):
        for time, expected in (
            (0, (1, 1)), (1, (1, 1)), (99, (1, 1)), (100, (1, 2)), (101, (1, 2)), (199, (1, 2)), (200, (2, 3)),
            (201, (2, 3)), (299, (2, 3)), (300, (3, 4)), (12345, (123, 124)),
        ):
            self.assertEqual(scans_for(time, 100), expected, time)
        self.assertEqual([scans_for(0, 1), scans_for(1, 1), scans_for(7, 1)], [(1, 1), (1, 2), (7, 8)])
        self.assertEqual(scans_for(10 ** 30, 10), (10 ** 29, 10 ** 29 + 1))

    def test_bad_numbers(self):
        for scan in (0, -1, -100):
            for time in (0, 5, 100):
                with self.assertRaises(BadNumber):
                    scans_for(time, scan)


class WithinTest(unittest.TestCase):
    def test_is_within(self):
        for inner, outer, expected in (
            ((1, 5), (1, 5), True), ((2, 4), (1, 5), True), ((1, 4), (1, 5), True), ((2, 5), (1, 5), True),
            ((3, 3), (3, 3), True), ((0, 5), (1, 5), False), ((1, 6), (1, 5), False), ((0, 6), (1, 5), False),
            ((6, 7), (1, 5), False), ((-3, 0), (1, 5), False), ((-3, -2), (-3, -1), True),
        ):
            self.assertIs(is_within(inner, outer), expected, (inner, outer))


if __name__ == "__main__":
    unittest.main()
