"""Point 33: what holds for the standard logics of rides, each promise alone."""

import unittest
from random import Random

from coastersafe.control import play, safe_scans, scanned, standard_logic
from coastersafe.ride import Ride, dangers, is_at_rest, is_in
from coastersafe.ridecheck import all_faults, check_ride
from ridesamples import GO, LARGE_RIDES, OPEN, SMALL_RIDES, STOP, Explorer, random_scans, rides


def went_over(before, after):
    return any(old[0] == "held" and new[0] == "over" for old, new in zip(before[0], after[0]))


def is_full(ride, state, block):
    return any(is_in(ride, train, block) for train in state[0])


def in_station(ride):
    return ("held", len(ride.ways) - 1, 0)


class DangerTest(unittest.TestCase):
    def assert_no_danger(self, ride, states):
        for state in states:
            self.assertEqual(dangers(ride, state), [])

    def test_all_scenes_of_small_rides(self):
        for ride in rides(SMALL_RIDES):
            explorer = Explorer(ride)
            self.assert_no_danger(ride, [state for state, _ in explorer.reached()])
            kind, scenes = check_ride(ride, explorer.logic, all_faults(ride), limit=100000)
            self.assertEqual(kind, "safe")
            self.assert_no_danger(ride, [state for state, _ in scenes])

    def test_each_fault_at_each_scan(self):
        random = Random(33)
        for ride in rides(SMALL_RIDES[2:3] + LARGE_RIDES[:1]):
            logic = standard_logic(ride)
            for late in (0, 1):
                for fault in all_faults(ride):
                    for at in range(12):
                        scans = random_scans(random, ride, 24, fault, at, (9, 0.1, 1))
                        scans = [(buttons, (late,) * len(ride.trains), new) for buttons, _, new in scans]
                        self.assert_no_danger(ride, play(ride, logic, scans))

    def test_drawn_plays_of_large_rides(self):
        random = Random(34)
        for ride in rides(LARGE_RIDES):
            logic = standard_logic(ride)
            for fault in [None] + random.sample(all_faults(ride), 12):
                for weights in ((9.5, 0, 0.5), (5, 0.1, 5)):
                    scans = random_scans(random, ride, 60, fault, random.randrange(60), weights)
                    self.assert_no_danger(ride, play(ride, logic, scans))


class StopTest(unittest.TestCase):
    def test_all_scenes_of_small_rides(self):
        for ride in rides(SMALL_RIDES[:6]):
            explorer = Explorer(ride)
            faults = all_faults(ride)[:: 1 if len(ride.ways) == 2 else 7]
            level = set()
            for scene in explorer.reached(faults):
                for buttons in ((0, 1, 0), (1, 1, 1)):
                    level.update([after for _, after in explorer.edges(scene, [], buttons)])
            for _ in range(safe_scans(ride) - 1):
                level = {after for scene in level for _, after in explorer.edges(scene, [])}
            known = set()
            while level:
                known |= level
                for state, _ in level:
                    self.assertTrue(is_at_rest(state))
                level = {after for scene in level for _, after in explorer.edges(scene, [])} - known

    def test_drawn_plays_of_all_rides(self):
        random = Random(35)
        for ride in rides(SMALL_RIDES + LARGE_RIDES):
            logic = standard_logic(ride)
            count = safe_scans(ride)
            for fault in [None] + random.sample(all_faults(ride), 8):
                before = random.randrange(2 * count)
                at = random.randrange(before + count)
                scans = random_scans(random, ride, before + count + 10, fault, at, (9, 0, 0.5))
                scans[before] = (random.choice([STOP, (1, 1, 0), (1, 1, 1)]), scans[before][1], scans[before][2])
                scans = [(buttons, tuple([random.randint(0, 1)] * len(late)), new) for buttons, late, new in scans]
                states = play(ride, logic, scans)
                held = states[before + count - 1]
                self.assertTrue(is_at_rest(held))
                for state in states[before + count:]:
                    self.assertEqual(state[0], held[0])


class GoTest(unittest.TestCase):
    def test_all_scenes_of_small_rides(self):
        for ride in rides(SMALL_RIDES):
            explorer = Explorer(ride)
            level = set(explorer.reached(buttons=GO))
            self.assertGreater(len(level), 3)
            for _ in range(safe_scans(ride) + 4):
                level = {
                    after
                    for scene in level
                    for _, after in explorer.edges(scene, [], GO)
                    if not went_over(scene[0], after[0])
                }
            self.assertEqual(level, set())

    def test_drawn_plays_of_large_rides(self):
        random = Random(36)
        for ride in rides(LARGE_RIDES):
            for late in (0, 1, None):
                scans = []
                for _ in range(400):
                    lates = [random.randint(0, 1) if late is None else late for _ in ride.trains]
                    scans.append((GO, tuple(lates), None))
                states = [ride.first()] + play(ride, standard_logic(ride), scans)
                since = 0
                for before, after in zip(states, states[1:]):
                    since = 0 if went_over(before, after) else since + 1
                    self.assertLess(since, safe_scans(ride) + 4)


class StationTest(unittest.TestCase):
    def assert_goes(self, explorer, scene):
        """The train in the station goes over, whichever trains are late."""
        number = scene[0][0].index(in_station(explorer.ride))
        for _, after in explorer.edges(scene, [], GO):
            self.assertEqual(after[0][0][number], ("over", len(explorer.ride.ways) - 1, 0))

    def test_all_scenes_of_small_rides(self):
        for ride in rides(SMALL_RIDES):
            explorer = Explorer(ride)
            checked = 0
            if in_station(ride) in ride.first()[0] and not is_full(ride, ride.first(), 0):
                self.assert_goes(explorer, explorer.first)
            for before, _, (after, memory) in explorer.edges_without_stop():
                if in_station(ride) in after[0]:
                    if not is_full(ride, before[0], 0) and not is_full(ride, after, 0):
                        self.assert_goes(explorer, (after, memory))
                        checked += 1
            self.assertGreater(checked, 0)

    def test_the_first_scan_of_rides_of_all_sizes(self):
        for blocks in range(2, 13):
            for trains in range(1, blocks):
                ride = Ride([(1, 3)] * blocks, 2, list(range(blocks - trains, blocks)))
                logic = standard_logic(ride)
                state, _ = scanned(ride, logic, ride.first(), logic.first(), GO, (0,) * trains, None)
                self.assertEqual(state[0][-1], ("over", blocks - 1, 0))


class ScenesTest(unittest.TestCase):
    def test_at_most_thousand_scenes(self):
        for trains in ([0], [1]):
            explorer = Explorer(Ride([(1, 1), (1, 1)], 1, trains))
            self.assertLessEqual(len(explorer.reached()), 1000)
            self.assertEqual(check_ride(explorer.ride, explorer.logic, [], limit=1000)[0], "safe")


class BarsTest(unittest.TestCase):
    def test_they_open(self):
        for ride in rides(SMALL_RIDES):
            explorer = Explorer(ride)
            opened = 0
            for before, choice, after in explorer.edges_without_stop():
                if choice[0] == OPEN and in_station(ride) in before[0][0]:
                    self.assertEqual(after[0][1], 1)
                    opened += 1
            self.assertGreater(opened, 0)

    def test_they_close(self):
        for ride in rides(SMALL_RIDES):
            explorer = Explorer(ride)
            for scene in explorer.reached():
                for (go, stop, is_open), after in [(edge[0][0], edge[1]) for edge in explorer.edges(scene, [])]:
                    if not is_open:
                        self.assertEqual(after[0][1], 0)

    def test_they_close_with_faults(self):
        random = Random(37)
        for ride in rides(LARGE_RIDES):
            logic = standard_logic(ride)
            for fault in random.sample(all_faults(ride), 10):
                scans = random_scans(random, ride, 40, fault, 5, (3, 0.1, 6))
                for scan, state in zip(scans, play(ride, logic, scans)):
                    if scan[0][2] == 0:
                        self.assertEqual(state[1], 0)


if __name__ == "__main__":
    unittest.main()
