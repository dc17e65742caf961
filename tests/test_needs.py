import unittest

from coastersafe.envelope import faults
from coastersafe.errors import InvalidTrain
from coastersafe.layout import Layout
from coastersafe.needs import least_lift, least_strength, longest_train, with_lift, with_strength
from coastersafe.train import Train
from samples import TRAIN, example, fleets, mixed


def bounds(train):
    return (train.length, train.friction, train.brake, train.lift, train.drive)


def kinds(layout, train):
    return [kind for kind, block in faults(layout, train)]


def lifted(length, slope):
    """A lift and then a coast that climbs, before the brake of block 0, and a block that leads down again."""
    return Layout([
        ("lift", 3, 0), ("coast", length, slope), ("brake", 5, 0), ("coast", length, -slope), ("brake", 30, 0),
    ])


class TrainsTest(unittest.TestCase):
    def test_with_lift(self):
        for lift in (1, 39999, 40001, 10000000):
            self.assertEqual(bounds(with_lift(TRAIN, lift)), (3, (100, 300), (200000, 250000), lift, 10000))
        for lift in (0, -1, 10000001):
            with self.assertRaises(InvalidTrain):
                with_lift(TRAIN, lift)

    def test_with_strength(self):
        for strength, greatest in ((1, 250000), (200000, 250000), (249999, 250000), (250000, 250000),
                                   (250001, 250001), (1000000, 1000000)):
            expected = (3, (100, 300), (strength, greatest), 40000, 10000)
            self.assertEqual(bounds(with_strength(TRAIN, strength)), expected)
        for strength in (0, -5, 1000001):
            with self.assertRaises(InvalidTrain):
                with_strength(TRAIN, strength)

    def test_the_train_stays(self):
        train = Train(3, (100, 300), (200000, 250000), 40000, 10000)
        with_lift(train, 5)
        with_strength(train, 5)
        self.assertEqual(bounds(train), bounds(TRAIN))


class LeastLiftTest(unittest.TestCase):
    def assert_least(self, layout, train, lift):
        self.assertNotIn("stall", kinds(layout, with_lift(train, lift)))
        if lift > 1:
            self.assertIn("stall", kinds(layout, with_lift(train, lift - 1)))

    def test_one_climb(self):
        # Ten metres of the slope 20 and of the friction 300 take 10 * (1962 * 20 + 300) away.
        self.assertEqual(least_lift(lifted(10, 20), TRAIN), 10 * (1962 * 20 + 300) + 1)
        self.assert_least(lifted(10, 20), TRAIN, 395401)

    def test_the_energy_of_the_lifts_so_far_does_not_matter(self):
        for lift in (1, 395400, 395401, 10000000):
            self.assertEqual(least_lift(lifted(10, 20), with_lift(TRAIN, lift)), 395401)

    def test_one_is_enough(self):
        layout = Layout([("lift", 3, 0), ("brake", 5, 0), ("coast", 2, 0), ("brake", 5, 0)])
        self.assertEqual(least_lift(layout, TRAIN), 1)
        self.assertEqual(least_lift(lifted(5, -20), Train(1, (0, 0), (1, 1), 7, 10000000)), 1)

    def test_two_are_needed(self):
        layout = Layout([("lift", 3, 0), ("coast", 1, 0), ("brake", 5, 0), ("brake", 5, 0)])
        train = Train(1, (1, 1), (1, 1), 7, 3)
        self.assertEqual(least_lift(layout, train), 2)
        self.assert_least(layout, train, 2)

    def test_the_greatest_number(self):
        # A coast of 239 metres with the friction 41841 takes 9999999 away.
        layout = Layout([("lift", 1, 0), ("coast", 239, 0), ("brake", 1, 0), ("brake", 1, 0)])
        train = Train(1, (0, 41841), (1, 1), 1, 1)
        self.assertEqual(least_lift(layout, train), 10000000)
        self.assert_least(layout, train, 10000000)
        self.assertEqual(least_lift(layout, Train(1, (0, 41840), (1, 1), 1, 1)), 10000000 - 239)
        self.assertIsNone(least_lift(layout, Train(1, (0, 41842), (1, 1), 1, 1)))

    def test_no_lift_at_all(self):
        layout = Layout([("coast", 10, 0), ("brake", 5, 0), ("coast", 4, 0), ("brake", 6, 0)])
        self.assertIsNone(least_lift(layout, Train(3, (100, 1000), (1, 1), 7, 10000)))
        self.assertEqual(least_lift(layout, Train(3, (100, 999), (1, 1), 7, 10000)), 1)

    def test_drawn_layouts(self):
        found = {}
        for layout, train in fleets(451, 150) + fleets(452, 100, 10):
            lift = least_lift(layout, train)
            if lift is None:
                self.assertIn("stall", kinds(layout, with_lift(train, 10000000)))
            else:
                self.assert_least(layout, train, lift)
            kind = lift if lift in (None, 1) else "more"
            found[kind] = found.get(kind, 0) + 1
        self.assertEqual(set(found), {None, 1, "more"})


class LeastStrengthTest(unittest.TestCase):
    def assert_least(self, layout, train, strength):
        self.assertNotIn("fast", kinds(layout, with_strength(train, strength)))
        if strength > 1:
            self.assertIn("fast", kinds(layout, with_strength(train, strength - 1)))

    def test_example_of_the_document(self):
        self.assertEqual([least_strength(example(), TRAIN), longest_train(example())], [243140, 4])
        self.assert_least(example(), TRAIN, 243140)

    def test_the_strength_so_far_does_not_matter(self):
        for brake in ((1, 1), (1, 1000000), (243140, 243140), (1000000, 1000000)):
            train = Train(3, (100, 300), brake, 40000, 10000)
            self.assertEqual(least_strength(example(), train), 243140)

    def test_one_is_enough(self):
        # Five metres of a brake with the friction 9 and the strength 1 take 50 away.
        layout = Layout([("brake", 5, 0), ("brake", 5, 0)])
        self.assertEqual(least_strength(layout, Train(1, (9, 9), (5, 5), 1, 50)), 1)
        self.assertEqual(least_strength(layout, Train(1, (9, 9), (5, 5), 1, 51)), 2)

    def test_none_is_enough(self):
        layout = Layout([("lift", 3, 0), ("brake", 1, 0), ("coast", 2, 0), ("brake", 5, 0)])
        for drive, expected in ((1000000, 1000000), (999999, 999999), (1000001, None), (10000000, None)):
            train = Train(1, (0, 100), (5, 5), 7, drive)
            self.assertEqual(least_strength(layout, train), expected)
            if expected is not None:
                self.assert_least(layout, train, expected)

    def test_drawn_layouts(self):
        found = {}
        for layout, train in fleets(453, 200):
            strength = least_strength(layout, train)
            if strength is None:
                self.assertIn("fast", kinds(layout, with_strength(train, 1000000)))
            else:
                self.assert_least(layout, train, strength)
            kind = strength if strength in (None, 1) else "more"
            found[kind] = found.get(kind, 0) + 1
        self.assertEqual(set(found), {None, 1, "more"})

    def test_the_longest_layouts_end_soon(self):
        segments = [("coast", 500, 0), ("lift", 400, 5), ("brake", 100, 0)] * 3
        layout = Layout(segments + [("coast", 500, -10), ("lift", 300, -2), ("coast", 100, -4), ("brake", 100, 0)])
        self.assertEqual(layout.total(), 4000)
        self.assert_least(layout, TRAIN, least_strength(layout, TRAIN))
        self.assertIsNone(least_lift(layout, Train(3, (100, 60000), (5, 5), 7, 10000)))


class LongestTrainTest(unittest.TestCase):
    def assert_longest(self, layout, length):
        self.assertEqual(longest_train(layout), length)
        for other in range(1, 101):
            train = Train(other, (0, 0), (1, 1), 1, 1)
            self.assertEqual("short" in kinds(layout, train), length is None or other > length)

    def test_each_length(self):
        for first in (1, 2, 50, 99, 100, 101, 400):
            for second in (1, 3, 99, 100, 101):
                layout = Layout([("coast", first, 0), ("brake", 2, 0), ("lift", second, 0), ("brake", 1, 0)])
                self.assert_longest(layout, min(first, second, 100))

    def test_several_segments_before_a_brake(self):
        layout = Layout([("coast", 3, 1), ("lift", 4, -1), ("coast", 1, 1), ("brake", 2, 0), ("lift", 9, 0), ("brake", 1, 0)])
        self.assert_longest(layout, 8)

    def test_a_block_that_is_a_brake_alone(self):
        self.assert_longest(Layout([("coast", 9, 0), ("brake", 2, 0), ("brake", 1, 0)]), None)
        self.assert_longest(Layout([("brake", 2, 0), ("coast", 9, 0), ("brake", 1, 0)]), None)
        self.assert_longest(mixed(), None)


if __name__ == "__main__":
    unittest.main()
