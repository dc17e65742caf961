import unittest

from coastersafe.envelope import envelope, faults, passage_times, ride_of, stops
from coastersafe.errors import BadNumber, InvalidRide, NotFitting
from coastersafe.layout import Layout
from coastersafe.motion import after_metre, greatest_energies, least_energies, metre_times, way_times
from coastersafe.ride import Ride
from coastersafe.train import Train
from samples import EXAMPLE, TRAIN, example, fleets, mixed

SECOND = 1000000


def surely_stands(layout, train, metre, energy):
    """Whether a train stands within its block, seen metre by metre with the least friction and strength."""
    for at in range(metre, layout.end(layout.metre(metre)[2])):
        energy = after_metre(layout, train, at, energy, train.friction[0], train.brake[0])
        if energy == 0 and layout.metre(at)[0] != "lift":
            return True
    return False


def expected_envelope(layout, train):
    """Point 15, metre by metre backward."""
    found = [0] * layout.total()
    for block in range(layout.blocks()):
        behind = 0
        for metre in reversed(range(layout.begin(block), layout.end(block))):
            kind, slope, _ = layout.metre(metre)
            taken = 1962 * slope + train.friction[0]
            if kind == "coast":
                behind = max(0, max(behind, 0) + taken)
            elif kind == "brake":
                behind = max(0, max(behind, 0) + taken + train.brake[0])
            elif train.lift <= behind and behind + taken >= 0:
                behind = behind + taken
            else:
                behind = -1
            found[metre] = behind
    return found


def sums_of(layout, train, metres):
    """The sums of the times of some metres of one block."""
    least = least_energies(layout, train)
    greatest = greatest_energies(layout, train)
    times = [metre_times(min(least[at:at + 2]), max(greatest[at:at + 2])) for at in metres]
    return (sum([low for low, _ in times]), sum([high for _, high in times]))


def steady(lengths, brake=5):
    """Blocks in which a steady train goes 1 metre a second, with so many metres before each brake."""
    segments = []
    for length in lengths:
        segments += [("lift", length, 0), ("brake", brake, 0)]
    return Layout(segments)


def steady_train(length):
    return Train(length, (0, 0), (1000000, 1000000), 10000, 10000)


class EnvelopeTest(unittest.TestCase):
    def layouts(self):
        return [(example(), TRAIN), (mixed(), TRAIN)] + fleets(11, 250) + fleets(12, 100, steepness=4)

    def test_example_of_the_document(self):
        found = [envelope(example(), TRAIN)[29:35], faults(example(), TRAIN)]
        expected = [[882880, 1000500, 800400, 600300, 400200, 200100], [("fast", 0), ("fast", 1)]]
        self.assertEqual(found, expected)

    def test_against_the_formulas(self):
        for layout, train in self.layouts():
            self.assertEqual(envelope(layout, train), expected_envelope(layout, train))

    def test_it_is_the_greatest_energy_that_surely_stands(self):
        for layout, train in self.layouts():
            for metre, limit in enumerate(envelope(layout, train)):
                if limit >= 0:
                    self.assertTrue(surely_stands(layout, train, metre, limit))
                self.assertFalse(surely_stands(layout, train, metre, limit + 1))

    def test_coasts(self):
        layout = Layout([
            ("coast", 1, -10), ("coast", 1, 10), ("brake", 1, 0),
            ("coast", 1, 20), ("coast", 2, -10), ("brake", 1, 0),
        ])
        train = Train(1, (100, 300), (1000, 5000), 1, 1)
        # Where a train stands in the metre itself, nothing behind it matters: never less than 0.
        self.assertEqual(envelope(layout, train)[:3], [20820 - 19520, 1100 + 19620 + 100, 1100])
        self.assertEqual(envelope(layout, train)[3:], [39340, 0, 0, 1100])

    def test_brakes(self):
        layout = Layout([("brake", 1, -100), ("brake", 1, 100), ("brake", 3, 0)])
        train = Train(1, (100, 300), (1000, 5000), 1, 1)
        self.assertEqual(envelope(layout, train)[0], 0)
        self.assertEqual(envelope(layout, train)[1], 197300)
        self.assertEqual(envelope(layout, train)[2:], [3300, 2200, 1100])

    def test_lifts_at_the_lift_energy(self):
        layout = Layout([("lift", 1, 0), ("brake", 1, 0), ("brake", 1, 0)])
        for lift, expected in ((1099, 1200), (1100, 1200), (1101, -1)):
            self.assertEqual(envelope(layout, Train(1, (100, 300), (1000, 5000), lift, 1))[0], expected, lift)

    def test_lifts_that_fall(self):
        layout = Layout([("lift", 1, -1), ("brake", 1, 0), ("brake", 1, 1)])
        for strength, expected in ((1761, -1), (1762, 0), (1763, 1)):
            train = Train(1, (100, 300), (strength, 5000), 1, 1)
            self.assertEqual(envelope(layout, train)[0], expected, strength)

    def test_metres_before_a_lift_from_which_nothing_stands(self):
        layout = Layout([
            ("coast", 1, 0), ("lift", 2, 0), ("brake", 1, 0),
            ("brake", 1, 0), ("brake", 1, 0), ("lift", 1, 0), ("brake", 1, 0),
        ])
        train = Train(1, (100, 300), (1000, 5000), 1101, 1)
        self.assertEqual(envelope(layout, train), [100, -1, -1, 1100, 1100, 1100, -1, 1100])
        falling = Layout([("coast", 1, -1), ("lift", 1, 0), ("brake", 1, 0), ("brake", 1, 1)])
        self.assertEqual(envelope(falling, train)[:2], [0, -1])

    def test_each_block_for_itself(self):
        layout = Layout([("brake", 2, 0), ("brake", 3, 0), ("coast", 1, 0), ("brake", 1, 0)])
        train = Train(1, (0, 0), (1000, 1000), 1, 1)
        self.assertEqual(envelope(layout, train), [2000, 1000, 3000, 2000, 1000, 1000, 1000])


class StopsTest(unittest.TestCase):
    def test_at_the_envelope(self):
        for layout, train in [(example(), TRAIN), (mixed(), TRAIN)] + fleets(13, 40):
            for metre, limit in enumerate(envelope(layout, train)):
                self.assertIs(stops(layout, train, metre, limit + 1), False)
                if limit >= 0:
                    self.assertIs(stops(layout, train, metre, limit), True)
                if limit >= 1:
                    self.assertIs(stops(layout, train, metre, limit - 1), True)

    def test_numbers_of_the_example(self):
        found = [stops(example(), TRAIN, 34, energy) for energy in (0, 200099, 200100, 200101)]
        self.assertEqual(found, [True, True, True, False])

    def test_nothing_stands_in_a_lift_that_takes_it_along(self):
        layout = Layout([("lift", 1, 0), ("brake", 1, 0), ("brake", 1, 0)])
        self.assertIs(stops(layout, Train(1, (0, 0), (5, 5), 6, 1), 0, 0), False)
        self.assertIs(stops(layout, Train(1, (0, 0), (5, 5), 5, 1), 0, 0), True)

    def test_bad_numbers(self):
        for metre, energy in ((-1, 5), (-45, 5), (45, 5), (0, -1), (34, -5)):
            self.assertRaises(BadNumber, stops, example(), TRAIN, metre, energy)


class FaultsTest(unittest.TestCase):
    def test_no_faults(self):
        self.assertEqual(faults(steady([10, 8]), steady_train(8)), [])

    def test_short(self):
        self.assertEqual(faults(steady([10, 8]), steady_train(9)), [("short", 1)])
        self.assertEqual(faults(steady([10, 8, 9]), steady_train(10)), [("short", 1), ("short", 2)])
        # The metres of the brake do not count.
        self.assertEqual(faults(steady([3, 2], brake=50), steady_train(3)), [("short", 1)])

    def test_stall(self):
        layout = Layout([("coast", 3, 0), ("brake", 5, 0), ("coast", 2, 0), ("brake", 5, 0)])
        for most, blocks in ((0, []), (33, []), (34, [0]), (49, [0]), (50, [0, 1])):
            train = Train(2, (0, most), (1000, 1000), 1, 100)
            self.assertEqual(faults(layout, train), [("stall", block) for block in blocks], most)

    def test_stall_at_the_begin_of_the_brake_only(self):
        layout = Layout([("coast", 1, 0), ("brake", 5, 0), ("coast", 1, 0), ("brake", 5, 0)])
        self.assertEqual(faults(layout, Train(1, (0, 99), (1000, 1000), 1, 100)), [])
        self.assertEqual(faults(layout, Train(1, (0, 100), (1000, 1000), 1, 100)), [("stall", 0), ("stall", 1)])

    def test_no_stall_behind_the_begin_of_the_brake(self):
        # Behind a brake wheels turn; the energies there are at least that of the drive.
        layout = Layout([("brake", 5, 50), ("brake", 5, -50)])
        train = Train(1, (0, 0), (200000, 200000), 1, 1)
        self.assertEqual(faults(layout, train), [("short", 0), ("short", 1)])

    def test_fast(self):
        layout = Layout([("lift", 4, 0), ("brake", 2, 0), ("lift", 4, 0), ("brake", 3, 0)])
        for strength, blocks in ((3333, [0, 1]), (3334, [0]), (4999, [0]), (5000, [])):
            train = Train(1, (0, 0), (strength, 10000), 10000, 10000)
            self.assertEqual(faults(layout, train), [("fast", block) for block in blocks], strength)

    def test_all_of_them_in_their_order(self):
        layout = Layout([("coast", 2, 0), ("brake", 1, 0), ("coast", 3, 0), ("brake", 1, 0)])
        train = Train(4, (0, 50), (1, 1), 1, 100)
        expected = [("short", 0), ("stall", 0), ("fast", 0), ("short", 1), ("stall", 1), ("fast", 1)]
        self.assertEqual(faults(layout, train), expected)

    def test_against_the_words(self):
        seen = {"short": 0, "stall": 0, "fast": 0}
        for layout, train in fleets(14, 200) + fleets(15, 100, steepness=4):
            least = least_energies(layout, train)
            expected = []
            for block in range(layout.blocks()):
                begin, brake = layout.begin(block), layout.brake(block)
                if brake - begin < train.length:
                    expected.append(("short", block))
                if [metre for metre in range(begin, brake + 1) if least[metre] == 0]:
                    expected.append(("stall", block))
                if not surely_stands(layout, train, brake, greatest_energies(layout, train)[brake]):
                    expected.append(("fast", block))
            self.assertEqual(faults(layout, train), expected)
            for kind, _ in expected:
                seen[kind] += 1
        self.assertTrue(min(seen.values()) > 5, seen)


class PassageTest(unittest.TestCase):
    def test_the_first_metres_of_a_block(self):
        layout = steady([10, 8])
        for block in (0, 1):
            self.assertEqual(passage_times(layout, steady_train(3), block), (3 * SECOND, 3 * SECOND))
        self.assertEqual(passage_times(layout, steady_train(8), 1), (8 * SECOND, 8 * SECOND))

    def test_against_the_sums(self):
        seen = {"none": 0, "short": 0, "times": 0}
        for layout, train in fleets(16, 100) + fleets(17, 50, steepness=4):
            for block in range(layout.blocks()):
                begin = layout.begin(block)
                if layout.brake(block) - begin < train.length:
                    seen["short"] += 1
                    self.assertRaises(NotFitting, passage_times, layout, train, block)
                elif way_times(layout, train, block) is None:
                    seen["none"] += 1
                    self.assertIsNone(passage_times(layout, train, block))
                else:
                    seen["times"] += 1
                    expected = sums_of(layout, train, range(begin, begin + train.length))
                    self.assertEqual(passage_times(layout, train, block), expected)
        self.assertTrue(min(seen.values()) > 5, seen)

    def test_none_if_it_stands_behind_the_passage(self):
        layout = Layout([("coast", 4, 0), ("brake", 5, 0), ("coast", 4, 0), ("brake", 5, 0)])
        self.assertIsNone(passage_times(layout, Train(1, (0, 25), (1, 1), 1, 100), 0))
        self.assertIsNotNone(passage_times(layout, Train(1, (0, 24), (1, 1), 1, 100), 0))

    def test_blocks_that_there_are_not(self):
        for block in (-1, 2, 5):
            self.assertRaises(BadNumber, passage_times, example(), TRAIN, block)
            self.assertRaises(BadNumber, passage_times, example(), Train(100, (0, 0), (1, 1), 1, 1), block)

    def test_short_and_standing_is_not_fitting(self):
        layout = Layout([("coast", 2, 0), ("brake", 5, 0), ("coast", 2, 0), ("brake", 5, 0)])
        self.assertRaises(NotFitting, passage_times, layout, Train(3, (0, 50), (1, 1), 1, 100), 0)
        self.assertIsNone(passage_times(layout, Train(2, (0, 50), (1, 1), 1, 100), 0))


class RideOfTest(unittest.TestCase):
    def fields(self, ride):
        self.assertIsInstance(ride, Ride)
        return (ride.ways, ride.over, ride.trains)

    def test_ways_and_passage(self):
        ride = ride_of(steady([10, 8]), steady_train(3), SECOND, [1])
        self.assertEqual(self.fields(ride), (((7, 8), (5, 6)), 4, (1,)))

    def test_scans_that_do_not_divide_the_times(self):
        # The ways take 7 and 5 seconds, the passage 3.
        ride = ride_of(steady([10, 8]), steady_train(3), 2 * SECOND, [0])
        self.assertEqual(self.fields(ride), (((3, 4), (2, 3)), 2, (0,)))
        ride = ride_of(steady([10, 8]), steady_train(3), 999999, [0])
        self.assertEqual(self.fields(ride), (((7, 8), (5, 6)), 4, (0,)))
        ride = ride_of(steady([10, 8]), steady_train(3), 1000001, [0])
        self.assertEqual(self.fields(ride), (((6, 7), (4, 5)), 3, (0,)))

    def test_a_way_of_less_than_a_scan(self):
        ride = ride_of(steady([4, 3]), steady_train(3), 3 * SECOND, [0])
        self.assertEqual(self.fields(ride), (((1, 1), (1, 1)), 2, (0,)))

    def test_times_that_are_intervals(self):
        layout = Layout([
            ("lift", 20, 10), ("brake", 10, -10), ("coast", 12, -10), ("brake", 15, 0),
            ("coast", 2, 10), ("brake", 12, 0),
        ])
        train = Train(2, (50, 500), (150000, 200000), 90000, 60000)
        self.assertEqual(faults(layout, train), [])
        for scan in (70000, 90000, 200000):
            passages = [passage_times(layout, train, block) for block in range(3)]
            ways = []
            for block in range(3):
                low, high = sums_of(layout, train, range(layout.begin(block) + 2, layout.brake(block)))
                ways.append((max(1, low // scan), high // scan + 1))
                whole = way_times(layout, train, block)
                self.assertEqual((low + passages[block][0], high + passages[block][1]), whole)
            over = max([high // scan + 1 for _, high in passages])
            ride = ride_of(layout, train, scan, [2, 0])
            self.assertEqual(self.fields(ride), (tuple(ways), over, (2, 0)))

    def test_c_is_the_greatest_of_all_blocks(self):
        # The metre that a train begins with its drive takes long; behind the lift it is as fast as the lift.
        for kinds in (("lift", "coast"), ("coast", "lift")):
            layout = Layout([(kinds[0], 5, 0), ("brake", 5, 0), (kinds[1], 5, 0), ("brake", 5, 0)])
            train = Train(3, (0, 0), (1000000, 1000000), 40000, 10000)
            self.assertEqual(faults(layout, train), [])
            self.assertEqual(ride_of(layout, train, 500000, [0]).over, 7)

    def test_the_scan(self):
        layout = steady([30, 30])
        train = steady_train(20)
        self.assertEqual(self.fields(ride_of(layout, train, 10000000, [1])), (((1, 2), (1, 2)), 3, (1,)))
        self.assertRaises(BadNumber, ride_of, layout, train, 10000001, [1])
        self.assertRaises(BadNumber, ride_of, layout, train, 999, [1])
        self.assertRaises(BadNumber, ride_of, layout, train, 0, [1])
        self.assertRaises(BadNumber, ride_of, layout, train, -1000000, [1])
        # With scans so short a passage always takes too many of them.
        self.assertRaises(NotFitting, ride_of, layout, train, 1000, [1])

    def test_faults_do_not_fit(self):
        layout = steady([10, 8])
        self.assertRaises(NotFitting, ride_of, layout, steady_train(9), SECOND, [1])
        self.assertRaises(NotFitting, ride_of, layout, Train(3, (0, 0), (1000, 1000), 10000, 10000), SECOND, [1])
        coasts = Layout([("coast", 10, 0), ("brake", 5, 0), ("coast", 10, 0), ("brake", 5, 0)])
        self.assertRaises(NotFitting, ride_of, coasts, Train(3, (0, 1000), (100000, 100000), 10000, 10000), SECOND, [1])

    def test_a_passage_of_less_than_a_scan_does_not_fit(self):
        layout = steady([10, 8])
        self.assertEqual(ride_of(layout, steady_train(3), 3 * SECOND, [1]).over, 2)
        self.assertRaises(NotFitting, ride_of, layout, steady_train(3), 3 * SECOND + 1, [1])

    def test_the_least_time_of_a_passage_counts(self):
        layout = Layout([("lift", 5, 0), ("brake", 5, 0), ("lift", 5, 0), ("brake", 5, 0)])
        train = Train(2, (0, 0), (1000000, 1000000), 40000, 10000)
        self.assertEqual(passage_times(layout, train, 0), (SECOND, SECOND + SECOND // 2))
        self.assertEqual(ride_of(layout, train, SECOND, [1]).over, 2)
        for scan in (SECOND + 1, SECOND + SECOND // 4, SECOND + SECOND // 2):
            self.assertRaises(NotFitting, ride_of, layout, train, scan, [1])

    def test_the_greatest_b(self):
        for lengths in ([101, 5], [5, 101]):
            ride = ride_of(steady(lengths), steady_train(3), SECOND, [1])
            self.assertEqual(max(ride.ways), (98, 99))
            self.assertRaises(NotFitting, ride_of, steady(lengths[:1] + [102]), steady_train(3), SECOND, [1])
        self.assertRaises(NotFitting, ride_of, steady([102, 5]), steady_train(3), SECOND, [1])

    def test_the_greatest_c(self):
        layout = steady([40, 40])
        self.assertEqual(ride_of(layout, steady_train(19), SECOND, [1]).over, 20)
        self.assertRaises(NotFitting, ride_of, layout, steady_train(20), SECOND, [1])

    def test_trains(self):
        for trains in ([], [0, 1], [0, 0], [2], [-1]):
            self.assertRaises(InvalidRide, ride_of, steady([10, 8]), steady_train(3), SECOND, trains)
        self.assertEqual(ride_of(steady([10, 8, 9]), steady_train(3), SECOND, [2, 0]).trains, (2, 0))

    def test_the_order_of_errors(self):
        self.assertRaises(BadNumber, ride_of, example(), TRAIN, 999, [7])
        self.assertRaises(NotFitting, ride_of, example(), TRAIN, SECOND, [7])
        self.assertRaises(NotFitting, ride_of, steady([10, 8]), steady_train(3), 3 * SECOND + 1, [7])
        self.assertRaises(NotFitting, ride_of, steady([102, 8]), steady_train(3), SECOND, [7])

    def test_nothing_is_modified(self):
        trains = [1]
        layout = steady([10, 8])
        ride = ride_of(layout, steady_train(3), SECOND, trains)
        trains.append(0)
        self.assertEqual(ride.trains, (1,))
        self.assertEqual(example().segments, tuple(EXAMPLE))


if __name__ == "__main__":
    unittest.main()
