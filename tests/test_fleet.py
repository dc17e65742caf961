"""Tests of trains of several kinds (points 68 and 69)."""

import unittest
from itertools import permutations
from random import Random

from samples import TRAIN, example, random_layout, random_train

from coastersafe.envelope import envelope, faults, passage_times
from coastersafe.errors import NotFitting
from coastersafe.fleet import are_safe, worst_faults, worst_train
from coastersafe.layout import Layout
from coastersafe.motion import greatest_energies, least_energies, way_times
from coastersafe.rolltimes import is_within
from coastersafe.train import Train

FIELDS = ("length", "friction", "brake", "lift", "drive")
# A track on which slow trains with strong brakes are safe.
LEVEL = Layout([("lift", 10, 0), ("brake", 5, 0), ("lift", 8, 0), ("brake", 5, 0)])
GOOD = Train(3, (0, 100), (200000, 250000), 10000, 10000)


def fields(train):
    return [getattr(train, field) for field in FIELDS]


def with_energies(train, lift, drive):
    return Train(train.length, train.friction, train.brake, lift, drive)


def drawn_fleets(seed, count):
    """Layouts, each with some trains of the same energies."""
    random = Random(seed)
    for number in range(count):
        first = random_train(random)
        trains = [first]
        for _ in range(random.randint(0, 3)):
            trains.append(with_energies(random_train(random), first.lift, first.drive))
        yield random_layout(random, (5, 60)[number % 2]), trains


class WorstTrainTest(unittest.TestCase):
    def test_the_example(self):
        worst = worst_train([TRAIN, Train(5, (50, 200), (220000, 230000), 40000, 10000)])
        self.assertIsInstance(worst, Train)
        self.assertEqual(fields(worst), [5, (50, 300), (200000, 250000), 40000, 10000])

    def test_one_train(self):
        self.assertEqual(fields(worst_train([TRAIN])), fields(TRAIN))
        self.assertEqual(fields(worst_train([TRAIN, TRAIN])), fields(TRAIN))

    def test_several_in_any_order(self):
        trains = [
            Train(7, (10, 20), (500, 600), 5, 9), Train(2, (15, 40), (300, 350), 5, 9), Train(4, (0, 0), (1, 900), 5, 9),
        ]
        for some in permutations(trains):
            self.assertEqual(fields(worst_train(list(some))), [7, (0, 40), (1, 900), 5, 9])
        self.assertEqual(fields(worst_train(trains[:2])), [7, (10, 40), (300, 600), 5, 9])

    def test_errors(self):
        for trains in (
            [],
            [TRAIN, with_energies(TRAIN, 40001, 10000)],
            [TRAIN, with_energies(TRAIN, 40000, 9999)],
            [TRAIN, TRAIN, with_energies(TRAIN, 10000, 40000)],
            [with_energies(TRAIN, 1, 1), TRAIN, TRAIN],
        ):
            with self.assertRaises(NotFitting):
                worst_train(trains)
            with self.assertRaises(NotFitting):
                worst_faults(example(), trains)

    def test_the_list_is_left_as_it_is(self):
        trains = [TRAIN, GOOD]
        trains[1] = with_energies(GOOD, TRAIN.lift, TRAIN.drive)
        before = list(trains)
        worst_train(trains)
        are_safe(example(), trains)
        worst_faults(example(), trains)
        self.assertEqual(trains, before)


class SafetyTest(unittest.TestCase):
    def test_by_hand(self):
        long = Train(9, (0, 100), (200000, 250000), 10000, 10000)
        weak = Train(3, (0, 100), (1, 250000), 10000, 10000)
        self.assertEqual(faults(LEVEL, GOOD), [])
        self.assertIs(are_safe(LEVEL, [GOOD]), True)
        self.assertIs(are_safe(LEVEL, [GOOD, GOOD]), True)
        self.assertEqual(worst_faults(LEVEL, [GOOD]), [])
        self.assertIs(are_safe(LEVEL, [GOOD, long]), False)
        self.assertIs(are_safe(LEVEL, [weak, GOOD]), False)
        self.assertEqual(worst_faults(LEVEL, [GOOD, long]), [("short", 1)])
        self.assertEqual(worst_faults(LEVEL, [weak, GOOD]), [("fast", 0), ("fast", 1)])
        self.assertEqual(worst_faults(LEVEL, [weak, long]), [("fast", 0), ("short", 1), ("fast", 1)])

    def test_each_safe_but_not_the_worst(self):
        # The one never brakes weakly, the other never rolls freely.
        layout = Layout([("coast", 4, 0), ("brake", 2, 0), ("coast", 4, 0), ("brake", 2, 0)])
        free = Train(1, (0, 0), (5000, 5000), 1, 10000)
        weak = Train(1, (1000, 1000), (3000, 3000), 1, 10000)
        self.assertEqual([faults(layout, free), faults(layout, weak)], [[], []])
        self.assertIs(are_safe(layout, [free, weak]), True)
        self.assertEqual(worst_faults(layout, [free, weak]), [("fast", 0), ("fast", 1)])

    def test_drawn_trains(self):
        answers = {}
        for layout, trains in drawn_fleets(68, 200):
            is_safe = are_safe(layout, trains)
            self.assertIs(is_safe, all(faults(layout, train) == [] for train in trains))
            self.assertEqual(worst_faults(layout, trains), faults(layout, worst_train(trains)))
            answers[(is_safe, worst_faults(layout, trains) == [])] = True
            # The worst one has each of their faults.
            for train in trains:
                for fault in faults(layout, train):
                    self.assertIn(fault, worst_faults(layout, trains))
        self.assertNotIn((False, True), answers)
        self.assertGreaterEqual(len(answers), 2)

    def test_trains_of_other_energies_are_looked_at_one_by_one(self):
        # Only the worst train needs the same energies.
        self.assertIs(are_safe(LEVEL, [GOOD, with_energies(GOOD, 10001, 10001)]), True)
        self.assertIs(are_safe(LEVEL, [GOOD, with_energies(GOOD, 10000000, 10000)]), False)
        self.assertIs(are_safe(LEVEL, []), True)


class WorstOfAllTest(unittest.TestCase):
    def test_energies_and_envelopes(self):
        for layout, trains in drawn_fleets(69, 80):
            worst = worst_train(trains)
            for train in trains:
                for metre in range(layout.total()):
                    self.assertLessEqual(greatest_energies(layout, train)[metre], greatest_energies(layout, worst)[metre])
                    self.assertGreaterEqual(least_energies(layout, train)[metre], least_energies(layout, worst)[metre])
                    self.assertGreaterEqual(envelope(layout, train)[metre], envelope(layout, worst)[metre])

    def test_times(self):
        seen = {"way": 0, "passage": 0}
        for layout, trains in drawn_fleets(70, 200):
            length = min(train.length for train in trains)
            trains = [Train(length, train.friction, train.brake, train.lift, train.drive) for train in trains]
            worst = worst_train(trains)
            for block in range(layout.blocks()):
                for train in trains:
                    outer = way_times(layout, worst, block)
                    if outer is not None:
                        self.assertTrue(is_within(way_times(layout, train, block), outer))
                        seen["way"] += len(trains) > 1
                    if layout.brake(block) - layout.begin(block) >= length:
                        outer = passage_times(layout, worst, block)
                        if outer is not None:
                            self.assertTrue(is_within(passage_times(layout, train, block), outer))
                            seen["passage"] += len(trains) > 1
        self.assertGreater(min(seen.values()), 50)


if __name__ == "__main__":
    unittest.main()
