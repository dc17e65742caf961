import unittest
from random import Random

from coastersafe.errors import BadNumber, NotFitting
from coastersafe.layout import Layout
from coastersafe.motion import (
    after_metre, energies_after, greatest_energies, least_energies, metre_times, roll, way_times,
)
from coastersafe.train import Train
from samples import TRAIN, example, fleets, mixed

# One metre of each kind with a slope of each sign, in the order of this table.
SLOPED = Layout([
    ("coast", 1, 10), ("coast", 1, -10), ("lift", 1, 10), ("lift", 1, -10), ("brake", 1, 10), ("brake", 1, -10),
])
UP = 19620


def expected_after(layout, train, metre, energy, friction, strength):
    """Point 9, form by form."""
    kind, slope, _ = layout.metre(metre)
    rest = energy - 1962 * slope - friction
    if kind == "lift":
        return rest if rest > train.lift else train.lift
    if kind == "brake" and strength is None:
        return rest if rest > train.drive else train.drive
    if kind == "brake":
        rest -= strength
    return rest if energy > 0 and rest > 0 else 0


def expected_way(layout, train, block):
    least = least_energies(layout, train)
    greatest = greatest_energies(layout, train)
    low = high = 0
    for metre in range(layout.begin(block), layout.brake(block)):
        if min(least[metre], least[metre + 1]) == 0:
            return None
        times = metre_times(min(least[metre:metre + 2]), max(greatest[metre:metre + 2]))
        low += times[0]
        high += times[1]
    return (low, high) if least[layout.brake(block)] > 0 else None


class AfterMetreTest(unittest.TestCase):
    def after(self, metre, energy, friction, strength=None):
        return after_metre(SLOPED, TRAIN, metre, energy, friction, strength)

    def test_example_of_the_document(self):
        found = [
            after_metre(example(), TRAIN, 20, 40000, 200, None),
            energies_after(example(), TRAIN, 29, 1000000, 2, True),
        ]
        self.assertEqual(found, [157520, [(1117420, 1117620), (867120, 917520)]])

    def test_coast(self):
        self.assertEqual(self.after(0, 100000, 200), 100000 - UP - 200)
        self.assertEqual(self.after(1, 100000, 200), 100000 + UP - 200)
        self.assertEqual(self.after(0, 10 ** 40, 0), 10 ** 40 - UP)

    def test_coast_where_the_energy_just_reaches_0(self):
        self.assertEqual([self.after(0, UP + 200 + more, 200) for more in (-1, 0, 1)], [0, 0, 1])
        self.assertEqual(self.after(0, 1, 300), 0)

    def test_a_train_that_stands_stays_in_coasts(self):
        self.assertEqual([self.after(metre, 0, 100) for metre in (0, 1)], [0, 0])
        self.assertEqual(self.after(1, 1, 100), 1 + UP - 100)

    def test_lift(self):
        self.assertEqual(self.after(2, 0, 100), 40000)
        self.assertEqual(self.after(3, 0, 100), 40000)
        self.assertEqual([self.after(2, 40000 + UP + 100 + more, 100) for more in (-1, 0, 1)], [40000, 40000, 40001])
        self.assertEqual(self.after(3, 40000, 100), 40000 + UP - 100)
        self.assertEqual([self.after(3, 40100 - UP + more, 100) for more in (-1, 0, 1)], [40000, 40000, 40001])

    def test_open_brake(self):
        self.assertEqual(self.after(4, 0, 100), 10000)
        self.assertEqual(self.after(5, 0, 100), UP - 100)
        self.assertEqual([self.after(4, 10000 + UP + 100 + more, 100) for more in (-1, 0, 1)], [10000, 10000, 10001])
        self.assertEqual(self.after(5, 10000, 100), 10000 + UP - 100)

    def test_closed_brake(self):
        self.assertEqual(self.after(4, 900000, 100, 200000), 900000 - UP - 100 - 200000)
        self.assertEqual(self.after(5, 900000, 100, 200000), 900000 + UP - 100 - 200000)
        self.assertEqual([self.after(4, UP + 200100 + more, 100, 200000) for more in (-1, 0, 1)], [0, 0, 1])
        self.assertEqual([self.after(metre, 0, 0, 1) for metre in (4, 5)], [0, 0])
        self.assertEqual(self.after(5, 1, 0, 1), UP)

    def test_the_strength_does_not_matter_elsewhere(self):
        for metre in range(4):
            for energy in (0, 1, 50000, 10 ** 7):
                found = {self.after(metre, energy, 250, strength) for strength in (None, 0, 200000, 250000)}
                self.assertEqual(len(found), 1, (metre, energy))

    def test_against_the_formulas(self):
        for metre in range(6):
            for energy in (0, 1, 99, 19719, 19720, 19721, 40000, 50000, 10 ** 6, 10 ** 30):
                for friction in (0, 100, 300, 100000):
                    for strength in (None, 1, 200000, 1000000):
                        given = (SLOPED, TRAIN, metre, energy, friction, strength)
                        self.assertEqual(after_metre(*given), expected_after(*given), given[2:])

    def test_bad_numbers(self):
        for metre in (-1, -6, 6, 7):
            self.assertRaises(BadNumber, self.after, metre, 5, 100)
        for metre in range(6):
            self.assertRaises(BadNumber, self.after, metre, -1, 100)
            self.assertRaises(BadNumber, self.after, metre, -10 ** 9, 100, 200000)


class RollTest(unittest.TestCase):
    def test_goes_round(self):
        layout = mixed()
        total = layout.total()
        count = 2 * total + 5
        frictions = [100 + 7 * number % 200 for number in range(count)]
        strengths = [None if number % 3 else 200000 + number for number in range(count)]
        for metre in (0, 1, total - 1):
            for energy in (0, 1, 1000000):
                expected = []
                now = energy
                for number in range(count):
                    at = (metre + number) % total
                    now = expected_after(layout, TRAIN, at, now, frictions[number], strengths[number])
                    expected.append(now)
                self.assertEqual(roll(layout, TRAIN, metre, energy, frictions, strengths), expected)

    def test_brakes_open_in_some_metres_and_closed_in_others(self):
        layout = Layout([("brake", 4, 0), ("brake", 1, 0)])
        found = roll(layout, TRAIN, 0, 500000, [100] * 4, [200000, None, 250000, None])
        self.assertEqual(found, [299900, 299800, 49700, 49600])

    def test_from_the_last_metre_to_the_first(self):
        layout = example()
        self.assertEqual(roll(layout, TRAIN, 44, 0, [100, 100], [None, None]), [10000, 40000])

    def test_a_train_that_comes_to_stand(self):
        layout = Layout([("coast", 3, 0), ("coast", 2, -50), ("lift", 1, 100), ("brake", 1, 0), ("brake", 1, 0)])
        found = roll(layout, TRAIN, 0, 500, [200] * 8, [None] * 8)
        self.assertEqual(found, [300, 100, 0, 0, 0, 40000, 39800, 39600])

    def test_no_metres(self):
        self.assertEqual(roll(example(), TRAIN, 3, 5, [], []), [])

    def test_the_lists_are_not_modified(self):
        frictions = [100, 200, 300]
        strengths = [None, 200000, None]
        roll(example(), TRAIN, 30, 10 ** 6, frictions, strengths)
        self.assertEqual((frictions, strengths), ([100, 200, 300], [None, 200000, None]))

    def test_bad_numbers_and_lists_of_different_lengths(self):
        for frictions, strengths in (([], []), ([100], [None]), ([100], []), ([], [None])):
            for metre, energy in ((-1, 5), (45, 5), (0, -1), (44, -5)):
                self.assertRaises(BadNumber, roll, example(), TRAIN, metre, energy, frictions, strengths)
        for frictions, strengths in (([100], []), ([], [None]), ([100] * 3, [None] * 2), ([100] * 2, [None] * 3)):
            self.assertRaises(NotFitting, roll, example(), TRAIN, 44, 0, frictions, strengths)


class EnergiesAfterTest(unittest.TestCase):
    def test_against_rolls(self):
        random = Random(9)
        for layout, train in fleets(1, 60):
            metre = random.randrange(layout.total())
            energy = random.choice([0, 1, 5000, 100000, 2000000])
            count = random.randint(0, 2 * layout.total())
            closed = random.choice([True, False])
            pairs = energies_after(layout, train, metre, energy, count, closed)
            bounds = []
            for side in (1, 0):
                strength = train.brake[side] if closed else None
                bounds.append(roll(layout, train, metre, energy, [train.friction[side]] * count, [strength] * count))
            self.assertEqual(pairs, list(zip(*bounds)))
            self.assertEqual(len(pairs), count)
            for _ in range(5):
                frictions = [random.randint(*train.friction) for _ in range(count)]
                strengths = [random.randint(*train.brake) if closed else None for _ in range(count)]
                energies = roll(layout, train, metre, energy, frictions, strengths)
                self.assertTrue(all(low <= now <= high for now, (low, high) in zip(energies, pairs)))

    def test_open_and_closed_brakes(self):
        layout = Layout([("brake", 3, 0), ("brake", 1, 0)])
        self.assertEqual(
            energies_after(layout, TRAIN, 0, 500000, 3, True),
            [(249700, 299900), (0, 99800), (0, 0)],
        )
        self.assertEqual(
            energies_after(layout, TRAIN, 0, 500000, 3, False),
            [(499700, 499900), (499400, 499800), (499100, 499700)],
        )

    def test_the_numbers_of_metres(self):
        layout = example()
        self.assertEqual(energies_after(layout, TRAIN, 0, 5, 0, True), [])
        pairs = energies_after(layout, TRAIN, 7, 5, 20000, False)
        self.assertEqual(len(pairs), 20000)
        self.assertEqual(pairs[:50], energies_after(layout, TRAIN, 7, 5, 50, False))
        for count in (-1, -20000, 20001, 10 ** 12):
            self.assertRaises(BadNumber, energies_after, layout, TRAIN, 0, 5, count, True)

    def test_bad_numbers(self):
        for metre, energy in ((-1, 5), (45, 5), (0, -1)):
            for count in (0, 1):
                self.assertRaises(BadNumber, energies_after, example(), TRAIN, metre, energy, count, False)


class BoundsTest(unittest.TestCase):
    def layouts(self):
        return [(example(), TRAIN), (mixed(), TRAIN)] + fleets(2, 150) + fleets(3, 60, steepness=5)

    def test_greatest_energies_against_many_rounds(self):
        for layout, train in self.layouts():
            total = layout.total()
            best = [0] * total
            energy = train.drive
            for number in range(5 * total):
                best[number % total] = max(best[number % total], energy)
                energy = expected_after(layout, train, number % total, energy, train.friction[0], None)
            self.assertEqual(greatest_energies(layout, train), best)

    def test_the_second_round_may_be_faster(self):
        layout = Layout([("coast", 5, -100), ("brake", 1, 0), ("lift", 5, 100), ("brake", 1, 0)])
        train = Train(1, (0, 10), (1, 1), 500000, 100)
        energies = greatest_energies(layout, train)
        self.assertEqual(energies[0], 500000)
        self.assertEqual(energies[5], 500000 + 5 * 196200)

    def test_no_energy_is_lost_without_friction(self):
        layout = Layout([("coast", 5, -100), ("brake", 2, 0), ("coast", 5, 100), ("brake", 2, 0)])
        train = Train(1, (0, 0), (1, 1), 1, 7)
        self.assertEqual(greatest_energies(layout, train)[0], 7)
        self.assertEqual(greatest_energies(layout, train)[6], 7 + 5 * 196200)

    def test_where_a_train_would_stand(self):
        layout = Layout([("coast", 5, 40), ("coast", 5, -40), ("brake", 2, 0), ("brake", 2, 0)])
        train = Train(1, (10, 20), (1, 1), 1, 78480 * 2 + 10)
        self.assertEqual(greatest_energies(layout, train)[:4], [156970, 78480, 0, 0])
        self.assertEqual(greatest_energies(layout, train)[4:], [0] * 7 + [156970, 156970, 156970])
        self.assertEqual(least_energies(layout, train)[:4], [156970, 78470, 0, 0])
        self.assertEqual(least_energies(layout, train)[4:], [0] * 7 + [156970, 156970, 156970])

    def test_least_energies_block_by_block(self):
        for layout, train in self.layouts():
            expected = []
            for block in range(layout.blocks()):
                energy = train.drive
                for metre in range(layout.begin(block), layout.end(block)):
                    expected.append(energy)
                    energy = expected_after(layout, train, metre, energy, train.friction[1], None)
            self.assertEqual(least_energies(layout, train), expected)

    def test_least_energies_of_the_example(self):
        energies = least_energies(example(), TRAIN)
        self.assertEqual(energies[:3], [10000, 40000, 40000])
        self.assertEqual(energies[20:22], [40000, 40000 + 60 * 1962 - 300])
        self.assertEqual(energies[35:], [10000, 9700, 9400, 9100, 8800] + [10000] * 5)

    def test_weak_drives(self):
        layout = Layout([("coast", 4, 0), ("brake", 2, 0), ("lift", 3, 10), ("coast", 3, -10), ("brake", 1, 0)])
        train = Train(1, (0, 1), (1, 1), 1, 2)
        self.assertEqual(least_energies(layout, train)[:6], [2, 1, 0, 0, 0, 2])
        self.assertEqual(greatest_energies(layout, train)[4], 1 + 3 * 19620)

    def test_one_energy_for_each_metre(self):
        for layout, train in self.layouts():
            least = least_energies(layout, train)
            greatest = greatest_energies(layout, train)
            self.assertEqual([len(least), len(greatest)], [layout.total()] * 2)
            self.assertTrue(all(low <= high for low, high in zip(least, greatest)))


class TimesTest(unittest.TestCase):
    def test_squares_and_their_neighbours(self):
        self.assertEqual(metre_times(10000, 10000), (1000000, 1000000))
        self.assertEqual(metre_times(9999, 9999), (1000000, 1010102))
        self.assertEqual(metre_times(10001, 10001), (990099, 1000000))
        self.assertEqual(metre_times(9, 16), (25000000, 33333334))
        self.assertEqual(metre_times(10, 15), (25000000, 33333334))
        self.assertEqual(metre_times(8, 17), (20000000, 50000000))
        self.assertEqual(metre_times(1, 1), (100000000, 100000000))
        self.assertEqual(metre_times(1, 2), (50000000, 100000000))
        self.assertEqual(metre_times(3, 10 ** 16 + 1), (0, 100000000))
        self.assertEqual(metre_times(10 ** 16 - 1, 10 ** 16), (1, 2))

    def test_bad_numbers(self):
        for low, high in ((0, 0), (0, 5), (-1, 5), (-5, -1), (6, 5), (2, 1)):
            self.assertRaises(BadNumber, metre_times, low, high)

    def test_way_of_equal_energies(self):
        layout = Layout([("lift", 7, 0), ("brake", 2, 0), ("lift", 3, 0), ("brake", 2, 0)])
        train = Train(1, (0, 0), (1, 1), 10000, 10000)
        found = [way_times(layout, train, block) for block in (0, 1)]
        self.assertEqual(found, [(7000000, 7000000), (3000000, 3000000)])

    def test_way_of_a_lift(self):
        layout = Layout([("lift", 2, 0), ("brake", 1, 0), ("lift", 1, 0), ("brake", 1, 0)])
        train = Train(1, (0, 100), (1, 1), 40000, 10000)
        # All metres but the first one are between 40000 and 40000, the first one from 10000 on.
        self.assertEqual(way_times(layout, train, 0), (1000000, 1500000))
        self.assertEqual(way_times(layout, train, 1), (500000, 1000000))

    def test_against_the_sums(self):
        seen = []
        for layout, train in fleets(4, 120) + fleets(5, 60, steepness=4):
            for block in range(layout.blocks()):
                times = way_times(layout, train, block)
                self.assertEqual(times, expected_way(layout, train, block))
                seen.append(times is None)
        self.assertTrue(True in seen and False in seen)

    def test_no_times_where_a_train_may_stand(self):
        # The energy is 0 at the begin of the brake first: 2 metres of friction 50 use up 100.
        layout = Layout([("coast", 2, 0), ("brake", 2, 0), ("coast", 1, 0), ("brake", 1, 0)])
        self.assertIsNone(way_times(layout, Train(1, (0, 50), (1, 1), 1, 100), 0))
        self.assertIsNotNone(way_times(layout, Train(1, (0, 50), (1, 1), 1, 101), 0))
        self.assertIsNotNone(way_times(layout, Train(1, (0, 50), (1, 1), 1, 100), 1))
        self.assertIsNone(way_times(layout, Train(1, (0, 50), (1, 1), 1, 50), 0))

    def test_a_lift_before_the_brake_does_not_help(self):
        layout = Layout([("coast", 2, 0), ("lift", 2, 0), ("brake", 2, 0), ("brake", 1, 0)])
        self.assertIsNone(way_times(layout, Train(1, (0, 50), (1, 1), 400, 100), 0))

    def test_a_block_without_a_way(self):
        layout = Layout([("coast", 2, 0), ("brake", 2, 0), ("brake", 1, 0)])
        self.assertEqual(way_times(layout, TRAIN, 1), (0, 0))

    def test_blocks_that_there_are_not(self):
        for block in (-1, 2, 3):
            self.assertRaises(BadNumber, way_times, example(), TRAIN, block)


if __name__ == "__main__":
    unittest.main()
