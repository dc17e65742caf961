import unittest
from itertools import product
from random import Random

from coastersafe.control import play, standard_logic
from coastersafe.errors import NotFitting
from coastersafe.recorder import causes, explanation, record_of
from coastersafe.ride import Ride, moved, readings
from coastersafe.ridecheck import all_faults
from ridesamples import GO, LARGE_RIDES, NOTHING, SMALL_RIDES, has_choice, logic_for, random_scans, rides

TINY = Ride([(1, 2), (1, 1)], 2, [1])


def plain_explanation(ride, record, cause):
    """The least list of late trains, found by trying all of them in their order."""
    def tried(state, number):
        if readings(ride, state) != record[number][0]:
            return None
        if number == len(record) - 1:
            return []
        fault = cause[0] if cause is not None and cause[1] == number else None
        for late in product(*[(0, 1) if has_choice(ride, train) else (0,) for train in state[0]]):
            rest = tried(moved(ride, state, record[number][1], record[number][2], late, fault), number + 1)
            if rest is not None:
                return [late] + rest
        return None

    return tried(ride.first(), 0)


def all_causes(ride, record):
    return [None] + [(fault, scan) for scan in range(len(record) - 1) for fault in all_faults(ride)]


def drawn_record(random, ride, count, fault=None, at=0):
    logic = standard_logic(ride)
    scans = random_scans(random, ride, count, fault, at, (8, 0.2, 1))
    return record_of(ride, logic, scans), scans


class RecordTest(unittest.TestCase):
    def test_entries(self):
        ride = Ride([(1, 2), (1, 1)], 1, [1])
        logic = logic_for(2, ["b0a := open", "b1a := go", "b1b := go", "bars := pa and open"])
        scans = [((0, 0, 1), (0,), None), (GO, (0,), None), ((1, 0, 1), (0,), None)]
        self.assertEqual(record_of(ride, logic, scans), [
            ((0, 0, 0, 0, 1, 1), (1, 0, 0, 0), 1),
            ((0, 0, 0, 0, 1, 1), (0, 0, 1, 1), 0),
            ((0, 0, 1, 1, 0, 0), (1, 0, 1, 1), 0),
        ])
        self.assertEqual(record_of(ride, logic, []), [])

    def test_against_plays(self):
        random = Random(511)
        for ride in rides(SMALL_RIDES + LARGE_RIDES):
            logic = standard_logic(ride)
            for fault in [None] + random.sample(all_faults(ride), 3):
                scans = random_scans(random, ride, 40, fault, random.randrange(40), (8, 0.2, 1))
                kept = list(scans)
                record = record_of(ride, logic, scans)
                states = [ride.first()] + play(ride, logic, scans)
                self.assertEqual([entry[0] for entry in record], [readings(ride, state) for state in states[:-1]])
                for entry, scan, before, after in zip(record, scans, states, states[1:]):
                    self.assertEqual(moved(ride, before, entry[1], entry[2], scan[1], scan[2]), after)
                    self.assertEqual(entry[2], after[1])
                self.assertEqual(scans, kept)

    def test_faults_of_sensors_and_calipers(self):
        ride = Ride([(1, 1), (1, 1)], 1, [1])
        logic = standard_logic(ride)
        for fault, told in (
            ((("sensor", 1, 1), 0), (0, 0, 1, 0, 0, 0)), ((("present", 0, 0), 1), (0, 0, 1, 1, 1, 0)),
            ((("brake", 1, 0), 0), (0, 0, 0, 0, 1, 1)), ((("brake", 0, 0), 0), (0, 0, 1, 1, 0, 0)),
        ):
            record = record_of(ride, logic, [(GO, (0,), fault), (NOTHING, (0,), None)])
            self.assertEqual(record[0], ((0, 0, 0, 0, 1, 1), (0, 0, 1, 1), 0))
            self.assertEqual(record[1][0], told)

    def test_not_fitting(self):
        logic = standard_logic(TINY)
        good = (GO, (0,), None)
        fault = (("brake", 1, 0), 1)
        for scans in (
            [(GO, (0, 0), None)], [good, (GO, (), None)], [good, (GO, (0,), (("brake", 2, 0), 1))],
            [(GO, (0,), fault), (GO, (0,), fault)],
        ):
            with self.assertRaises(NotFitting):
                record_of(TINY, logic, scans)
        for scans in ([], [good]):
            with self.assertRaises(NotFitting):
                record_of(TINY, logic_for(3), scans)


class ExplanationTest(unittest.TestCase):
    def test_a_train_that_was_late(self):
        told = {"held": (0, 0, 0, 0, 1, 1), "over": (0, 0, 1, 1, 0, 0), "none": (0, 0, 0, 0, 0, 0)}
        opened, closed = (0, 0, 1, 1), (0, 0, 0, 0)
        record = [(told["held"], opened, 0), (told["over"], closed, 0), (told["over"], closed, 0), (told["none"], closed, 0)]
        self.assertEqual(explanation(TINY, record, None), [(0,), (1,), (0,)])
        record[2] = (told["none"], closed, 0)
        # Nothing tells whether the train has arrived, so the least list says that it has.
        self.assertEqual(explanation(TINY, record, None), [(0,), (0,), (0,)])
        record = record[:3] + [(told["none"], closed, 0), ((1, 1, 0, 0, 0, 0), closed, 0)]
        self.assertIsNone(explanation(TINY, record, None))
        record[3] = (told["none"], (1, 1, 0, 0), 0)
        self.assertEqual(explanation(TINY, record, None), [(0,), (0,), (0,), (0,)])
        record[2] = (told["over"], closed, 0)
        self.assertIsNone(explanation(TINY, record, None))

    def test_records_of_plays(self):
        random = Random(521)
        for ride in rides(SMALL_RIDES + LARGE_RIDES[:3]):
            for number in range(8):
                at = random.randrange(12)
                fault = random.choice(all_faults(ride)) if number else None
                record, scans = drawn_record(random, ride, 13, fault, at)
                true = (fault, at) if fault is not None and at <= 11 else None
                found = explanation(ride, record, true)
                self.assertIsNotNone(found)
                self.assertEqual(found, plain_explanation(ride, record, true))
                self.assertEqual(len(found), 12)
                for cause in random.sample(all_causes(ride, record), 10):
                    self.assertEqual(explanation(ride, record, cause), plain_explanation(ride, record, cause))

    def test_causes_at_the_first_and_at_the_last_scan(self):
        ride = Ride([(1, 1), (1, 1)], 1, [1])
        logic = standard_logic(ride)
        fault = (("sensor", 0, 1), 1)
        quiet = (NOTHING, (0,), None)
        for count in (2, 3, 6):
            for at in (0, count - 2):
                scans = [quiet] * at + [(NOTHING, (0,), fault)] + [quiet] * (count - at - 1)
                record = record_of(ride, logic, scans)
                self.assertEqual(explanation(ride, record, (fault, at)), [(0,)] * (count - 1))
                self.assertEqual(causes(ride, record), [(fault, at)])
            # The move of the last scan is not seen any more.
            record = record_of(ride, logic, [quiet] * (count - 1) + [(NOTHING, (0,), fault)])
            self.assertEqual(explanation(ride, record, None), [(0,)] * (count - 1))
            self.assertIn(None, causes(ride, record))

    def test_empty_records_and_one_entry(self):
        self.assertEqual(explanation(TINY, [], None), [])
        self.assertEqual(causes(TINY, []), [None])
        first = ((0, 0, 0, 0, 1, 1), (1, 1, 0, 0), 1)
        self.assertEqual(explanation(TINY, [first], None), [])
        self.assertEqual(causes(TINY, [first]), [None])
        other = ((0, 0, 0, 0, 1, 0), (1, 1, 0, 0), 1)
        for record in ([other], [other, first], [other, other]):
            self.assertIsNone(explanation(TINY, record, None))
            self.assertEqual(causes(TINY, record), [])

    def test_the_last_commands_do_not_matter(self):
        record, _ = drawn_record(Random(522), TINY, 9)
        found = explanation(TINY, record, None)
        for commands in product((0, 1), repeat=4):
            for bars in (0, 1):
                other = record[:-1] + [(record[-1][0], commands, bars)]
                self.assertEqual(explanation(TINY, other, None), found)
                self.assertEqual(causes(TINY, other), causes(TINY, record))

    def test_not_fitting(self):
        good = ((0, 0, 0, 0, 1, 1), (0, 0, 0, 0), 0)
        for wrong in (
            ((0, 0, 0, 0, 1), (0, 0, 0, 0), 0), ((0, 0, 0, 0, 1, 1, 0), (0, 0, 0, 0), 0), ((), (0, 0, 0, 0), 0),
            ((0, 0, 0, 0, 1, 1), (0, 0, 0), 0), ((0, 0, 0, 0, 1, 1), (0, 0, 0, 0, 0), 0), ((0, 0, 0, 0, 1, 1), (), 0),
        ):
            for record in ([wrong], [good, wrong], [wrong, good], [good, good, wrong]):
                with self.assertRaises(NotFitting):
                    causes(TINY, record)
                with self.assertRaises(NotFitting):
                    explanation(TINY, record, None)
        fault = (("sensor", 0, 0), 0)
        for count in range(5):
            record = [good] * count
            for scan in (-2, -1, count - 1, count, count + 5):
                if not 0 <= scan <= count - 2:
                    with self.assertRaises(NotFitting):
                        explanation(TINY, record, (fault, scan))
        for part in (("sensor", 2, 0), ("sensor", 0, 2), ("present", 1, 0), ("brake", 0, -1), ("bars", 0, 0)):
            with self.assertRaises(NotFitting):
                explanation(TINY, [good] * 3, ((part, 0), 0))
            with self.assertRaises(NotFitting):
                explanation(TINY, [((1,) * 6, (0, 0, 0, 0), 0)] * 3, ((part, 0), 1))
        self.assertEqual(explanation(TINY, [good] * 3, (fault, 1)), [(0,), (0,)])

    def test_long_records(self):
        record = record_of(TINY, standard_logic(TINY), [(GO, (number % 2,), None) for number in range(1500)])
        self.assertEqual(len(explanation(TINY, record, None)), 1499)

    def test_the_record_stays(self):
        record, _ = drawn_record(Random(523), TINY, 9)
        kept = list(record)
        explanation(TINY, record, None)
        causes(TINY, record)
        self.assertEqual(record, kept)


class CausesTest(unittest.TestCase):
    def test_example_of_the_document(self):
        # The document shows a cause without the pair around its fault here; point 52 says `(fault, scan)`.
        ride = Ride([(1, 2), (1, 1)], 1, [1])
        scans = [((1, 0, 0), (0,), (("sensor", 1, 0), 0)), ((0, 0, 0), (0,), None)]
        record = record_of(ride, standard_logic(ride), scans)
        self.assertEqual(causes(ride, record), [((("sensor", 1, 0), 0), 0)])

    def test_causes_that_are_not_seen(self):
        ride = Ride([(1, 1), (1, 1)], 1, [1])
        record = record_of(ride, standard_logic(ride), [(NOTHING, (0,), None)] * 3)
        found = causes(ride, record)
        self.assertEqual(found[0], None)
        quiet = [fault for fault in all_faults(ride) if fault[0][0] == "brake"]
        quiet += [(part, 1 if part[0] == "present" else 0) for part in ride.parts() if part[0] != "brake"]
        expected = [None] + [(fault, scan) for scan in (0, 1) for fault in all_faults(ride) if fault in quiet]
        self.assertEqual(found, expected)

    def test_the_true_cause_is_among_them(self):
        random = Random(531)
        for ride in rides(SMALL_RIDES + LARGE_RIDES[:2]):
            for fault in [None] + random.sample(all_faults(ride), 3):
                at = random.randrange(15)
                record, scans = drawn_record(random, ride, 15, fault, at)
                true = None if fault is None or at == 14 else (fault, at)
                found = causes(ride, record)
                self.assertIn(true, found)
                expected = [cause for cause in all_causes(ride, record) if explanation(ride, record, cause) is not None]
                self.assertEqual(found, expected)

    def test_records_that_nothing_explains(self):
        good = ((0, 0, 0, 0, 1, 1), (0, 0, 0, 0), 0)
        self.assertEqual(causes(TINY, [good, ((1, 0, 1, 0, 1, 1), (0, 0, 0, 0), 0)]), [])
        self.assertEqual(causes(TINY, [good, good, ((0, 0, 0, 0, 0, 0), (0, 0, 0, 0), 0)]), [])

    def test_changed_records(self):
        random = Random(532)
        for ride in rides(SMALL_RIDES[:5]):
            record, _ = drawn_record(random, ride, 8, random.choice(all_faults(ride)), 3)
            at, sensor = random.randrange(1, 8), random.randrange(len(record[0][0]))
            told = list(record[at][0])
            told[sensor] = 1 - told[sensor]
            record[at] = (tuple(told),) + record[at][1:]
            expected = [c for c in all_causes(ride, record) if plain_explanation(ride, record, c) is not None]
            self.assertEqual(causes(ride, record), expected)


if __name__ == "__main__":
    unittest.main()
