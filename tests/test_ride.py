import unittest
from itertools import product

from coastersafe.errors import InvalidRide, NotFitting
from coastersafe.ride import Ride, dangers, is_at_rest, is_state, moved, readings

WAYS = [(1, 2), (1, 1), (2, 3)]
SHUT = (0, 0, 0, 0, 0, 0)
ALL_OPEN = (1, 1, 1, 1, 1, 1)


def ride_with(ways=((1, 2), (1, 1), (2, 4)), over=3, trains=(2,)):
    return Ride(list(ways), over, list(trains))


def states_of_train(ride):
    """All that a train of a ride may be doing."""
    found = []
    for block, (_, longest) in enumerate(ride.ways):
        found += [("way", block, age) for age in range(longest)]
        found.append(("held", block, 0))
        found += [("over", block, age) for age in range(ride.over)]
    return found


def nexts_of_train(ride, train, is_open):
    """What a train may do in a move, and which of it is the early and the late choice."""
    kind, block, age = train
    if kind == "held":
        after = ("over", block, 0) if is_open else train
        return {0: after, 1: after}
    older = age + 1
    if kind == "way":
        may, must = older >= ride.ways[block][0], older == ride.ways[block][1]
        there = ("held", block, 0)
    else:
        may, must = older >= 1, older == ride.over
        there = ("way", (block + 1) % len(ride.ways), 0)
    stays = (kind, block, older)
    return {0: there if may or must else stays, 1: there if must else stays}


def is_open_by(commands, fault, block):
    for channel in (0, 1):
        caliper = commands[2 * block + channel]
        if fault is not None and fault[0] == ("brake", block, channel):
            caliper = fault[1]
        if caliper == 0:
            return False
    return True


class RulesTest(unittest.TestCase):
    def assert_invalid(self, ways, over, trains):
        with self.assertRaises(InvalidRide, msg=(ways, over, trains)):
            Ride(ways, over, trains)

    def test_fields(self):
        ride = Ride(WAYS, 1, [2, 0])
        self.assertEqual((ride.ways, ride.over, ride.trains), (tuple(WAYS), 1, (2, 0)))

    def test_the_number_of_blocks(self):
        for blocks in (2, 3, 11, 12):
            self.assertEqual(Ride([(1, 1)] * blocks, 1, [0]).ways, ((1, 1),) * blocks)
        for blocks in (0, 1, 13, 20):
            self.assert_invalid([(1, 1)] * blocks, 1, [0])

    def test_ways(self):
        for way in ((1, 1), (1, 99), (99, 99), (5, 6)):
            self.assertEqual(Ride([(1, 1), way], 1, [0]).ways, ((1, 1), way))
            self.assertEqual(Ride([way, (1, 1)], 1, [0]).ways, (way, (1, 1)))
        for way in ((0, 1), (0, 0), (-1, 5), (1, 100), (100, 100), (2, 1), (99, 98)):
            self.assert_invalid([(1, 1), way], 1, [0])
            self.assert_invalid([way, (1, 1)], 1, [0])

    def test_scans_of_a_passage(self):
        for over in (1, 2, 19, 20):
            self.assertEqual(Ride(WAYS, over, [0]).over, over)
        for over in (0, -1, 21, 100):
            self.assert_invalid(WAYS, over, [0])

    def test_the_number_of_trains(self):
        self.assert_invalid(WAYS, 1, [])
        self.assertEqual(Ride(WAYS, 1, [1]).trains, (1,))
        self.assertEqual(Ride(WAYS, 1, [1, 2]).trains, (1, 2))
        self.assert_invalid(WAYS, 1, [0, 1, 2])
        self.assertEqual(Ride([(1, 1)] * 12, 1, list(range(11))).trains, tuple(range(11)))
        self.assert_invalid([(1, 1)] * 12, 1, list(range(12)))
        self.assert_invalid([(1, 1)] * 2, 1, [0, 1])

    def test_the_blocks_of_trains(self):
        for block in (0, 1, 2):
            self.assertEqual(Ride(WAYS, 1, [block]).trains, (block,))
        for block in (-1, -3, 3, 4):
            self.assert_invalid(WAYS, 1, [block])
            self.assert_invalid(WAYS, 1, [1, block])
        for trains in ([0, 0], [2, 2]):
            self.assert_invalid(WAYS, 1, trains)

    def test_the_lists_are_copied(self):
        ways = list(WAYS)
        trains = [1]
        ride = Ride(ways, 1, trains)
        ways[0] = (5, 5)
        ways.append((1, 1))
        trains.append(0)
        self.assertEqual((ride.ways, ride.trains), (tuple(WAYS), (1,)))


class FirstTest(unittest.TestCase):
    def test_first(self):
        self.assertEqual(Ride(WAYS, 1, [2]).first(), ((("held", 2, 0),), 0, None))
        self.assertEqual(Ride(WAYS, 1, [2, 0]).first(), ((("held", 2, 0), ("held", 0, 0)), 0, None))

    def test_parts(self):
        expected = [
            ("sensor", 0, 0), ("sensor", 0, 1), ("sensor", 1, 0), ("sensor", 1, 1),
            ("present", 0, 0), ("present", 0, 1),
            ("brake", 0, 0), ("brake", 0, 1), ("brake", 1, 0), ("brake", 1, 1),
        ]
        self.assertEqual(Ride([(1, 1), (1, 1)], 1, [0]).parts(), expected)

    def test_parts_of_twelve_blocks(self):
        parts = Ride([(1, 1)] * 12, 1, [0]).parts()
        pairs = [(block, channel) for block in range(12) for channel in (0, 1)]
        self.assertEqual(parts[:24], [("sensor", *pair) for pair in pairs])
        self.assertEqual(parts[24:26], [("present", 0, 0), ("present", 0, 1)])
        self.assertEqual(parts[26:], [("brake", *pair) for pair in pairs])

    def test_the_list_of_parts_is_new(self):
        ride = Ride(WAYS, 1, [2])
        ride.parts().clear()
        self.assertEqual(len(ride.parts()), 14)


class ReadingsTest(unittest.TestCase):
    def test_examples_of_the_document(self):
        ride = Ride(WAYS, 1, [2])
        state = moved(ride, ride.first(), (0, 0, 0, 0, 1, 1), 0, (0,), None)
        self.assertEqual([state, readings(ride, state)], [((("over", 2, 0),), 0, None), (0, 0, 0, 0, 1, 1, 0, 0)])
        state = moved(ride, ride.first(), (0, 0, 0, 0, 1, 0), 0, (0,), (("brake", 2, 1), 1))
        self.assertEqual(state, ((("over", 2, 0),), 0, (("brake", 2, 1), 1)))

    def test_sensors_and_station(self):
        ride = ride_with()
        for train, expected in (
            (("over", 0, 0), (1, 1, 0, 0, 0, 0, 0, 0)),
            (("over", 1, 2), (0, 0, 1, 1, 0, 0, 0, 0)),
            (("over", 2, 1), (0, 0, 0, 0, 1, 1, 0, 0)),
            (("held", 2, 0), (0, 0, 0, 0, 0, 0, 1, 1)),
            (("held", 0, 0), (0, 0, 0, 0, 0, 0, 0, 0)),
            (("held", 1, 0), (0, 0, 0, 0, 0, 0, 0, 0)),
            (("way", 2, 0), (0, 0, 0, 0, 0, 0, 0, 0)),
            (("way", 0, 1), (0, 0, 0, 0, 0, 0, 0, 0)),
        ):
            for bars in (0, 1):
                self.assertEqual(readings(ride, ((train,), bars, None)), expected, train)

    def test_several_trains(self):
        ride = ride_with(trains=(0, 2))
        state = ((("over", 0, 1), ("held", 2, 0)), 0, None)
        self.assertEqual(readings(ride, state), (1, 1, 0, 0, 0, 0, 1, 1))
        state = ((("over", 2, 1), ("over", 1, 0)), 0, None)
        self.assertEqual(readings(ride, state), (0, 0, 1, 1, 1, 1, 0, 0))

    def test_every_fault_of_every_part(self):
        ride = ride_with(trains=(0, 2))
        parts = ride.parts()
        for trains in product(states_of_train(ride), repeat=2):
            true = readings(ride, (trains, 0, None))
            self.assertEqual(len(true), 8)
            for at, part in enumerate(parts):
                for number in (0, 1):
                    expected = list(true)
                    if at < 8:
                        expected[at] = number
                    self.assertEqual(readings(ride, (trains, 0, (part, number))), tuple(expected))


class MovedTest(unittest.TestCase):
    def one(self, train, commands=SHUT, late=0, ride=None):
        return moved(ride or ride_with(), ((train,), 0, None), commands, 0, (late,), None)[0][0]

    def test_a_train_on_its_way(self):
        # Block 2 has the way (2, 4).
        self.assertEqual([self.one(("way", 2, 0), late=late) for late in (0, 1)], [("way", 2, 1)] * 2)
        self.assertEqual([self.one(("way", 2, 1), late=late) for late in (0, 1)], [("held", 2, 0), ("way", 2, 2)])
        self.assertEqual([self.one(("way", 2, 2), late=late) for late in (0, 1)], [("held", 2, 0), ("way", 2, 3)])
        self.assertEqual([self.one(("way", 2, 3), late=late) for late in (0, 1)], [("held", 2, 0)] * 2)

    def test_ways_of_one_scan(self):
        self.assertEqual([self.one(("way", 1, 0), late=late) for late in (0, 1)], [("held", 1, 0)] * 2)

    def test_a_train_that_is_over(self):
        for block, after in ((0, 1), (1, 2), (2, 0)):
            for age in (0, 1):
                found = [self.one(("over", block, age), late=late) for late in (0, 1)]
                self.assertEqual(found, [("way", after, 0), ("over", block, age + 1)])
            found = [self.one(("over", block, 2), late=late) for late in (0, 1)]
            self.assertEqual(found, [("way", after, 0)] * 2)

    def test_passages_of_one_scan(self):
        ride = ride_with(over=1)
        self.assertEqual([self.one(("over", 2, 0), late=late, ride=ride) for late in (0, 1)], [("way", 0, 0)] * 2)

    def test_a_train_that_is_held(self):
        for block in range(3):
            held = ("held", block, 0)
            for first, second in product((0, 1), repeat=2):
                for others in (0, 1):
                    commands = [others] * 6
                    commands[2 * block:2 * block + 2] = [first, second]
                    expected = ("over", block, 0) if first and second else held
                    for late in (0, 1):
                        self.assertEqual(self.one(held, tuple(commands), late), expected)

    def test_commands_do_not_matter_for_trains_that_move(self):
        for train in (("way", 2, 0), ("over", 1, 1), ("way", 0, 0)):
            self.assertEqual(self.one(train, SHUT, 1), self.one(train, ALL_OPEN, 1))

    def test_bars(self):
        ride = ride_with()
        for before, bars in product((0, 1), repeat=2):
            state = moved(ride, ((("held", 2, 0),), before, None), SHUT, bars, (0,), None)
            self.assertEqual(state, ((("held", 2, 0),), bars, None))

    def test_calipers_with_a_fault(self):
        ride = ride_with()
        for block in range(3):
            for channel in (0, 1):
                for number in (0, 1):
                    fault = (("brake", block, channel), number)
                    for commands in product((0, 1), repeat=2):
                        all_commands = [0] * 6
                        all_commands[2 * block:2 * block + 2] = commands
                        calipers = list(commands)
                        calipers[channel] = number
                        expected = ("over", block, 0) if calipers == [1, 1] else ("held", block, 0)
                        held = (("held", block, 0),)
                        # The fault is there already, or it comes now, before the train moves.
                        for old, new in ((fault, None), (None, fault)):
                            state = moved(ride, (held, 0, old), tuple(all_commands), 0, (0,), new)
                            self.assertEqual(state, ((expected,), 0, fault))

    def test_faults_of_sensors_change_no_move(self):
        ride = ride_with()
        for part in ride.parts()[:8]:
            for number in (0, 1):
                state = moved(ride, ride.first(), ALL_OPEN, 1, (0,), (part, number))
                self.assertEqual(state, ((("over", 2, 0),), 1, (part, number)))

    def test_a_fault_stays_for_ever(self):
        ride = ride_with()
        fault = (("sensor", 1, 1), 1)
        state = moved(ride, ride.first(), ALL_OPEN, 0, (0,), fault)
        for _ in range(20):
            state = moved(ride, state, ALL_OPEN, 0, (0,), None)
            self.assertEqual(state[2], fault)

    def test_all_moves_of_two_trains(self):
        ride = ride_with(trains=(0, 2))
        kinds = states_of_train(ride)
        commands = [SHUT, ALL_OPEN, (1, 1, 0, 1, 1, 0), (0, 1, 1, 1, 0, 0)]
        faults = [None, (("brake", 1, 0), 0), (("brake", 1, 0), 1), (("brake", 2, 1), 1), (("sensor", 1, 0), 1)]
        for trains in product(kinds, repeat=2):
            for given, late, fault in product(commands, product((0, 1), repeat=2), faults):
                expected = []
                for train, choice in zip(trains, late):
                    expected.append(nexts_of_train(ride, train, is_open_by(given, fault, train[1]))[choice])
                state = moved(ride, (trains, 1, None), given, 0, late, fault)
                self.assertEqual(state, (tuple(expected), 0, fault))

    def test_the_state_is_not_modified(self):
        ride = ride_with()
        state = ride.first()
        moved(ride, state, ALL_OPEN, 1, (0,), (("brake", 0, 0), 1))
        self.assertEqual(state, ((("held", 2, 0),), 0, None))


class NotFittingTest(unittest.TestCase):
    def assert_refused(self, ride, state, commands, late, fault=None):
        with self.assertRaises(NotFitting, msg=(state, commands, late, fault)):
            moved(ride, state, commands, 0, late, fault)

    def test_commands(self):
        ride = ride_with()
        for count in (0, 1, 3, 5, 7, 8, 12):
            self.assert_refused(ride, ride.first(), (0,) * count, (0,))

    def test_late(self):
        ride = ride_with(trains=(0, 2))
        for count in (0, 1, 3, 6):
            self.assert_refused(ride, ride.first(), SHUT, (0,) * count)
        self.assertEqual(moved(ride, ride.first(), SHUT, 0, (0, 0), None), ride.first())

    def test_trains_of_another_ride(self):
        ride = ride_with(trains=(0, 2))
        self.assert_refused(ride, ride_with().first(), SHUT, (0, 0))
        self.assert_refused(ride_with(), ride.first(), SHUT, (0,))

    def test_a_second_fault(self):
        ride = ride_with()
        old = (("sensor", 0, 0), 1)
        state = (ride.first()[0], 0, old)
        for new in (old, (("sensor", 0, 0), 0), (("brake", 1, 1), 1)):
            self.assert_refused(ride, state, SHUT, (0,), new)
        self.assertEqual(moved(ride, state, SHUT, 0, (0,), None), state)

    def test_parts_that_the_ride_has_not(self):
        ride = ride_with()
        for part in (
            ("sensor", 3, 0), ("sensor", -1, 0), ("sensor", 0, 2), ("sensor", 0, -1), ("present", 1, 0),
            ("present", 2, 0), ("present", 0, 2), ("brake", 3, 0), ("brake", 0, 2), ("brake", -1, 1), ("bars", 0, 0),
        ):
            for number in (0, 1):
                self.assert_refused(ride, ride.first(), SHUT, (0,), (part, number))

    def test_all_parts_of_the_ride(self):
        ride = ride_with()
        for part in ride.parts():
            for number in (0, 1):
                self.assertEqual(moved(ride, ride.first(), SHUT, 0, (0,), (part, number))[2], (part, number))


class DangersTest(unittest.TestCase):
    def test_none_at_the_beginning(self):
        self.assertEqual(dangers(ride_with(trains=(0, 1)), ride_with(trains=(0, 1)).first()), [])

    def test_all_states_of_two_trains(self):
        ride = ride_with(trains=(0, 2))
        for trains in product(states_of_train(ride), repeat=2):
            places = []
            for kind, block, _ in trains:
                places.append({block, (block + 1) % 3} if kind == "over" else {block})
            together = [("together", block) for block in range(3) if block in places[0] and block in places[1]]
            self.assertEqual(dangers(ride, (trains, 0, None)), together)
            is_held = ("held", 2, 0) in trains
            expected = together if is_held else together + [("bars",)]
            self.assertEqual(dangers(ride, (trains, 1, None)), expected)

    def test_the_station_and_the_block_behind_it(self):
        ride = ride_with(trains=(0, 2))
        state = ((("over", 2, 0), ("way", 0, 0)), 1, None)
        self.assertEqual(dangers(ride, state), [("together", 0), ("bars",)])
        state = ((("over", 2, 0), ("held", 2, 0)), 1, None)
        self.assertEqual(dangers(ride, state), [("together", 2)])

    def test_three_trains_in_one_block(self):
        ride = Ride([(1, 1)] * 4, 2, [0, 1, 2])
        state = ((("over", 0, 0), ("held", 1, 0), ("way", 1, 0)), 0, None)
        self.assertEqual(dangers(ride, state), [("together", 1)])
        state = ((("over", 0, 0), ("over", 1, 0), ("over", 2, 0)), 0, None)
        self.assertEqual(dangers(ride, state), [("together", 1), ("together", 2)])

    def test_a_fault_is_no_danger(self):
        ride = ride_with()
        for part in ride.parts():
            self.assertEqual(dangers(ride, (ride.first()[0], 0, (part, 1))), [])


class RestTest(unittest.TestCase):
    def test_is_at_rest(self):
        held = ("held", 0, 0)
        self.assertIs(is_at_rest(((held,), 0, None)), True)
        self.assertIs(is_at_rest(((held, ("held", 2, 0)), 1, (("brake", 0, 0), 1))), True)
        for train in (("way", 1, 0), ("over", 1, 0), ("over", 2, 2)):
            for trains in ((train,), (held, train), (train, held), (train, train)):
                self.assertIs(is_at_rest((trains, 0, None)), False)


class StateTest(unittest.TestCase):
    def test_trains(self):
        ride = Ride([(1, 3), (1, 2), (1, 1)], 2, [0, 2])
        held = ("held", 0, 0)
        for kind, block, age in product(("way", "held", "over"), range(-1, 5), range(-2, 6)):
            longest = {"way": (3, 2, 1), "held": (1, 1, 1), "over": (2, 2, 2)}[kind]
            expected = 0 <= block < 3 and 0 <= age < longest[block]
            train = (kind, block, age)
            for trains in ((held, train), (train, held), (train, train)):
                self.assertIs(is_state(ride, (trains, 0, None)), expected, train)
            for trains in ((), (train,), (held, held, train)):
                self.assertIs(is_state(ride, (trains, 0, None)), False, train)

    def test_bars_and_faults(self):
        ride = ride_with()
        trains = ride.first()[0]
        for bars in (-1, 0, 1, 2):
            self.assertIs(is_state(ride, (trains, bars, None)), bars in (0, 1))
        for kind, block, channel, number in product(("sensor", "present", "brake"), range(-1, 4), range(-1, 3), range(-1, 3)):
            part = (kind, block, channel)
            expected = part in ride.parts() and number in (0, 1)
            self.assertIs(is_state(ride, (trains, 1, (part, number))), expected, part)


if __name__ == "__main__":
    unittest.main()
