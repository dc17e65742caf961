import unittest
from random import Random

from coastersafe.control import standard_logic
from coastersafe.errors import NotFitting, TooLarge
from coastersafe.ride import Ride, dangers
from coastersafe.ridecheck import all_faults, check_ride, choices, is_safe_list
from ridesamples import (
    ALL_BUTTONS, LARGE_RIDES, SMALL_RIDES, Explorer, changed, logic_for, plain_choices, reckless, rides,
)

TOO_LARGE = "too large"


def plain_check(explorer, faults, limit):
    """What check_ride gives, with all lists of choices of each level, or TOO_LARGE."""
    ways = {explorer.first: []}
    level = [explorer.first]
    while level:
        if len(ways) > limit:
            return TOO_LARGE
        following = []
        for scene in level:
            for choice, after in explorer.edges(scene, faults):
                if after not in ways:
                    ways[after] = ways[scene] + [choice]
                    following.append(after)
        bad = [scene for scene in following if dangers(explorer.ride, scene[0])]
        if bad:
            # The scenes of a level are found in the order of the lists that lead to them.
            return ("unsafe", ways[bad[0]])
        level = following
    return ("safe", list(ways))


def told_check(ride, logic, faults, limit):
    try:
        return check_ride(ride, logic, faults, limit=limit)
    except TooLarge as error:
        assert error.limit == limit
        return TOO_LARGE


class ChoicesTest(unittest.TestCase):
    def setUp(self):
        self.ride = Ride([(1, 2), (3, 5), (1, 1), (2, 2)], 2, [3, 1])

    def test_held_trains_have_no_choice(self):
        self.assertEqual(choices(self.ride, self.ride.first(), []), [(buttons, (0, 0), None) for buttons in ALL_BUTTONS])

    def test_trains_on_their_way(self):
        for block, age, has_choice in (
            (0, 0, True), (0, 1, False),
            (1, 0, False), (1, 1, False), (1, 2, True), (1, 3, True), (1, 4, False),
            (2, 0, False),
            (3, 0, False), (3, 1, False),
        ):
            found = choices(self.ride, ((("way", block, age), ("held", 1, 0)), 0, None), [])
            lates = [(0, 0), (1, 0)] if has_choice else [(0, 0)]
            self.assertEqual(found, [(buttons, late, None) for buttons in ALL_BUTTONS for late in lates])

    def test_trains_that_are_over(self):
        for age, lates in ((0, [(0, 0), (0, 1)]), (1, [(0, 0)])):
            found = choices(self.ride, ((("held", 3, 0), ("over", 1, age)), 0, None), [])
            self.assertEqual(found, [(buttons, late, None) for buttons in ALL_BUTTONS for late in lates])
        ride = Ride([(1, 1), (1, 1)], 1, [1])
        self.assertEqual(len(choices(ride, ((("over", 1, 0),), 0, None), [])), 8)

    def test_faults_come_last(self):
        state = ((("over", 3, 0), ("way", 1, 2)), 1, None)
        faults = [(("brake", 0, 1), 1), (("sensor", 2, 0), 0), (("brake", 0, 1), 0)]
        expected = [
            (buttons, late, fault)
            for buttons in ALL_BUTTONS
            for late in ((0, 0), (0, 1), (1, 0), (1, 1))
            for fault in [None] + faults
        ]
        self.assertEqual(choices(self.ride, state, faults), expected)
        self.assertEqual(expected[:2], [((0, 0, 0), (0, 0), None), ((0, 0, 0), (0, 0), faults[0])])

    def test_no_second_fault(self):
        faults = all_faults(self.ride)
        for fault in faults[::5]:
            found = choices(self.ride, (self.ride.first()[0], 0, fault), faults)
            self.assertEqual(found, [(buttons, (0, 0), None) for buttons in ALL_BUTTONS])

    def test_the_list_of_faults_stays(self):
        faults = all_faults(self.ride)
        kept = list(faults)
        self.assertEqual(len(choices(self.ride, self.ride.first(), faults)), 8 * (1 + len(faults)))
        self.assertEqual(faults, kept)

    def test_states_of_plays(self):
        for ride in rides(SMALL_RIDES[2:7]):
            explorer = Explorer(ride)
            for state, _ in explorer.reached()[:40]:
                for faults in ([], all_faults(ride)[3:6]):
                    self.assertEqual(choices(ride, state, faults), plain_choices(ride, state, faults))


class AllFaultsTest(unittest.TestCase):
    def test_all_faults(self):
        ride = Ride([(1, 1), (1, 1)], 1, [1])
        expected = []
        for part in (
            ("sensor", 0, 0), ("sensor", 0, 1), ("sensor", 1, 0), ("sensor", 1, 1), ("present", 0, 0),
            ("present", 0, 1), ("brake", 0, 0), ("brake", 0, 1), ("brake", 1, 0), ("brake", 1, 1),
        ):
            expected += [(part, 0), (part, 1)]
        self.assertEqual(all_faults(ride), expected)
        for ride in rides(LARGE_RIDES):
            self.assertEqual([fault[0] for fault in all_faults(ride)][::2], ride.parts())


class CheckRideTest(unittest.TestCase):
    def test_example_of_the_document(self):
        ride = Ride([(1, 1), (1, 1)], 1, [1])
        self.assertEqual([check_ride(ride, standard_logic(ride), [])[0], len(all_faults(ride))], ["safe", 20])

    def test_the_scenes_of_safe_rides_in_their_order(self):
        for ride in rides(SMALL_RIDES):
            explorer = Explorer(ride)
            self.assertEqual(check_ride(ride, explorer.logic, []), ("safe", explorer.reached()))
        for sample in SMALL_RIDES[:2]:
            ride = Ride(*sample)
            faults = all_faults(ride)[::3]
            explorer = Explorer(ride)
            self.assertEqual(check_ride(ride, explorer.logic, faults), ("safe", explorer.reached(faults)))

    def test_the_scenes_go_level_by_level(self):
        ride = Ride([(1, 1), (1, 1)], 1, [1])
        logic = logic_for(2, ["b1a := go", "b1b := go"])
        closed = (0,) * 5
        opened = tuple([1 if name in ("b1a", "b1b") else 0 for name in logic.order])
        states = [((("held", 1, 0),), 0, None), ((("over", 1, 0),), 0, None), ((("way", 0, 0),), 0, None)]
        expected = [
            (states[0], closed), (states[1], opened), (states[2], closed), (states[2], opened),
            ((((("held", 0, 0),)), 0, None), closed), ((((("held", 0, 0),)), 0, None), opened),
        ]
        self.assertEqual(check_ride(ride, logic, []), ("safe", expected))

    def test_open_bars_on_the_way(self):
        ride = Ride([(1, 1), (1, 1)], 1, [0])
        logic = logic_for(2, ["bars := open"])
        self.assertEqual(check_ride(ride, logic, []), ("unsafe", [((0, 0, 1), (0,), None)]))
        logic = logic_for(2, ["bars := open and pa"])
        self.assertEqual(check_ride(ride, logic, [])[0], "safe")
        fault = (("present", 0, 0), 1)
        run = [((0, 0, 0), (0,), fault), ((0, 0, 1), (0,), None)]
        self.assertEqual(check_ride(ride, logic, [fault]), ("unsafe", run))

    def test_trains_that_come_together(self):
        ride = Ride([(1, 1)] * 3, 1, [0, 1])
        lines = ["b0a := go", "b0b := go"]
        self.assertEqual(check_ride(ride, logic_for(3, lines), []), ("unsafe", [((1, 0, 0), (0, 0), None)]))
        self.assertEqual(check_ride(ride, logic_for(3, lines[:1]), [])[0], "safe")
        fault = (("brake", 0, 1), 1)
        found = check_ride(ride, logic_for(3, lines[:1]), [(("brake", 0, 0), 1), fault])
        self.assertEqual(found, ("unsafe", [((1, 0, 0), (0, 0), fault)]))

    def test_a_late_train_is_needed(self):
        # The train in front is over for two scans if it is late; then the brake behind it opens too soon.
        ride = Ride([(1, 1)] * 4, 2, [0, 1])
        lines = ["b0a := was", "b0b := was", "was := b1a and go", "b1a := go", "b1b := go"]
        explorer = Explorer(ride, logic_for(4, lines, ["was"]))
        found = check_ride(ride, explorer.logic, [])
        self.assertEqual(found, plain_check(explorer, [], 5000))
        self.assertEqual(found[0], "unsafe")

    def test_logics_with_one_thing_changed(self):
        for ride in rides(SMALL_RIDES[8:]):
            logic = standard_logic(ride)
            self.assertEqual(check_ride(ride, logic, [])[0], "safe")
            for replaced in (
                ("bars := open and pa and pb", "bars := open"),
                ("and go and not open", "and go"),
                ("b0a := not halted and not full1a and not full1b", "b0a := not halted"),
            ):
                if replaced[0].startswith("b0a"):
                    second = tuple([text.replace("b0a", "b0b") for text in replaced])
                    other = changed(logic, replaced, second)
                else:
                    other = changed(logic, replaced)
                found = check_ride(ride, other, [])
                self.assertEqual(found, plain_check(Explorer(ride, other), [], 5000))
                self.assertEqual(found[0], "unsafe")

    def test_one_channel_is_not_enough(self):
        # A sensor that fails while a train is over makes the block behind it seem free too soon.
        ride = Ride([(1, 1)] * 3, 3, [2, 0])
        logic = standard_logic(ride)
        blind = [(f" and not full{block}b", "") for block in range(3)]
        other = changed(logic, *blind)
        self.assertEqual(check_ride(ride, other, [])[0], "safe")
        faults = all_faults(ride)[:6]
        self.assertEqual(check_ride(ride, logic, faults)[0], "safe")
        kind, run = check_ride(ride, other, faults)
        self.assertEqual(kind, "unsafe")
        scene = Explorer(ride, other).first
        for choice in run:
            self.assertEqual(dangers(ride, scene[0]), [])
            self.assertIn(choice, choices(ride, scene[0], faults))
            scene = Explorer(ride, other).after(scene, choice)
        self.assertNotEqual(dangers(ride, scene[0]), [])
        self.assertEqual((kind, run), plain_check(Explorer(ride, other), faults, 5000))

    def test_against_a_plain_search(self):
        random = Random(391)
        names = ["go", "stop", "open", "pa", "s0a", "s1b", "b0a", "b1a"]
        kinds = {}
        for _ in range(60):
            ride = Ride(*random.choice(SMALL_RIDES[:6]))
            blocks = len(ride.ways)
            lines = []
            for name in [f"b{block}" for block in range(blocks)]:
                condition = f"{random.choice(names)} and not {random.choice(names)}"
                lines += [f"{name}a := {condition}", f"{name}b := {condition}"]
            lines.append("bars := " + random.choice(["0", "pb and open", "pa", "open", "b1a and b1b and go"]))
            explorer = Explorer(ride, logic_for(blocks, lines))
            faults = random.sample(all_faults(ride), random.choice([0, 0, 1, 2]))
            limit = random.choice([1, 3, 10, 30, 5000])
            found = told_check(ride, explorer.logic, faults, limit)
            self.assertEqual(found, plain_check(explorer, faults, limit))
            kinds[found[0]] = kinds.get(found[0], 0) + 1
        self.assertEqual(len(kinds), 3)

    def test_too_large(self):
        ride = Ride([(1, 1), (1, 1)], 1, [1])
        logic = standard_logic(ride)
        scenes = check_ride(ride, logic, [])[1]
        self.assertEqual(check_ride(ride, logic, [], limit=len(scenes))[1], scenes)
        for limit in (1, 2, len(scenes) - 1):
            self.assertEqual(told_check(ride, logic, [], limit), TOO_LARGE)

    def test_too_large_goes_by_levels(self):
        ride = Ride([(1, 1)] * 3, 1, [0, 1])
        self.assertEqual(check_ride(ride, reckless(3), [], limit=1)[0], "unsafe")
        # The second scan is the first one that may be dangerous; many scenes are reached by the first one.
        logic = logic_for(3, ["bars := was and open", "was := go", "more := stop"], ["was", "more"])
        self.assertEqual(len(Explorer(ride, logic).edges(Explorer(ride, logic).first, [])), 8)
        for limit, expected in ((1, TOO_LARGE), (3, TOO_LARGE), (4, "unsafe"), (5, "unsafe")):
            found = told_check(ride, logic, [], limit)
            self.assertEqual(found if found == TOO_LARGE else found[0], expected)

    def test_the_limit_of_five_thousand(self):
        ride = Ride([(1, 1)] * 2, 1, [1])
        bits = [f"m{number}" for number in range(13)]
        lines = [f"{after} := {before}" for before, after in list(zip(bits, bits[1:]))[::-1]] + ["m0 := go"]
        with self.assertRaises(TooLarge) as caught:
            check_ride(ride, logic_for(2, lines, bits), [])
        self.assertEqual(caught.exception.limit, 5000)
        self.assertEqual(len(check_ride(ride, logic_for(2, lines, bits), [], limit=8192)[1]), 8192)

    def test_not_fitting(self):
        ride = Ride([(1, 1), (1, 1)], 1, [1])
        logic = standard_logic(ride)
        faults = [(("sensor", 0, 0), 1), (("sensor", 2, 0), 1)]
        for call in (
            lambda: check_ride(ride, logic_for(3), []),
            lambda: check_ride(ride, logic, faults),
            lambda: check_ride(ride, logic, faults[::-1], limit=1),
            lambda: is_safe_list(ride, logic_for(3), [], []),
            lambda: is_safe_list(ride, logic, faults, []),
            lambda: is_safe_list(ride, logic, [(("brake", 0, 2), 0)], []),
        ):
            with self.assertRaises(NotFitting):
                call()


class SafeListTest(unittest.TestCase):
    def test_the_scenes_of_a_check(self):
        for sample in SMALL_RIDES[:5]:
            ride = Ride(*sample)
            logic = standard_logic(ride)
            for faults in ([], all_faults(ride)[:4]):
                scenes = check_ride(ride, logic, faults)[1]
                kept = list(scenes)
                self.assertIs(is_safe_list(ride, logic, faults, scenes), True)
                self.assertIs(is_safe_list(ride, logic, faults, scenes[::-1] + scenes[:1]), True)
                self.assertEqual(scenes, kept)
            self.assertIs(is_safe_list(ride, logic, all_faults(ride), scenes), False)

    def test_a_scene_left_out(self):
        ride = Ride(*SMALL_RIDES[2])
        logic = standard_logic(ride)
        scenes = check_ride(ride, logic, [])[1]
        for at in range(len(scenes)):
            self.assertIs(is_safe_list(ride, logic, [], scenes[:at] + scenes[at + 1:]), False)
        self.assertIs(is_safe_list(ride, logic, [], []), False)

    def test_without_the_beginning(self):
        # No scene leads back to the beginning, so all others are closed among themselves.
        ride = Ride([(1, 1), (1, 1)], 1, [1])
        logic = logic_for(2, ["later := 1"], ["later"])
        scenes = check_ride(ride, logic, [])[1]
        self.assertEqual(len(scenes), 2)
        self.assertIs(is_safe_list(ride, logic, [], scenes), True)
        self.assertIs(is_safe_list(ride, logic, [], scenes[1:]), False)

    def test_a_scene_put_in(self):
        ride = Ride([(1, 1), (1, 1)], 1, [1])
        logic = logic_for(2)
        scenes = check_ride(ride, logic, [])[1]
        closed = (0,) * 5
        self.assertEqual(scenes, [(ride.first(), closed)])
        opened = (1,) + closed[1:]
        for state, memory, expected in (
            (ride.first(), opened, True),
            (((("held", 1, 0),), 1, None), closed, True),
            (((("held", 0, 0),), 0, None), closed, True),
            (((("way", 1, 0),), 0, None), closed, True),
            (((("over", 0, 0),), 0, None), closed, False),
            (((("held", 0, 0),), 1, None), closed, False),
        ):
            more = (state, memory)
            self.assertIs(is_safe_list(ride, logic, [], scenes + [more]), expected, more)

    def test_scenes_with_dangers(self):
        ride = Ride([(1, 1)] * 3, 1, [0, 1])
        scenes = Explorer(ride, logic_for(3, ["b0a := go", "b0b := go"])).reached()
        self.assertIs(is_safe_list(ride, logic_for(3, ["b0a := go", "b0b := go"]), [], scenes), False)

    def test_elements_that_are_no_scenes(self):
        ride = Ride([(1, 1), (1, 1)], 1, [1])
        logic = logic_for(2)
        first = (ride.first(), logic.first())
        for wrong in (
            (ride.first(), logic.first()[1:]), (ride.first(), (2,) + logic.first()[1:]),
            (((), 0, None), logic.first()),
        ):
            self.assertIs(is_safe_list(ride, logic, [], [first, wrong]), False)


if __name__ == "__main__":
    unittest.main()
