"""Tests of bringing all trains home (points 64 and 65)."""

import unittest
from itertools import permutations, product

from coastersafe.errors import NotFitting, TooLarge
from coastersafe.homeward import after_plan, best_plan, is_plan
from coastersafe.ride import Ride


def ride_with(blocks, trains):
    """A ride; where its trains are at the beginning does not matter here."""
    return Ride([(1, 1)] * blocks, 1, list(range(trains)))


def plain_after(blocks, places, plan):
    """The places after each of the moves of a plan, or None."""
    rows = [places]
    for train in plan:
        places = list(rows[-1])
        if not 0 <= train < len(places) or (places[train] + 1) % blocks in places:
            return None
        places[train] = (places[train] + 1) % blocks
        rows.append(tuple(places))
    return rows


def plain_is_plan(blocks, places, plan):
    rows = plain_after(blocks, places, plan)
    return rows is not None and all(
        any(row[train] == blocks - 1 for row in rows) for train in range(len(places))
    )


def plain_best(blocks, places):
    """The least one of the shortest plans, by looking at all plans of a length, in ascending order."""
    plans = [[]]
    while True:
        for plan in plans:
            if plain_is_plan(blocks, places, plan):
                return plan
        plans = [plan + [train] for plan in plans for train in range(len(places))]
        plans = [plan for plan in plans if plain_after(blocks, places, plan) is not None]


def least_length(blocks, places):
    """The length of a shortest plan, by a search through places and trains that have been home."""
    level = {(places, tuple([place == blocks - 1 for place in places]))}
    length = 0
    while not any(all(home) for _, home in level):
        following = set()
        for row, home in level:
            for train in range(len(row)):
                if (row[train] + 1) % blocks not in row:
                    after = row[:train] + ((row[train] + 1) % blocks,) + row[train + 1:]
                    following.add((after, home[:train] + (home[train] or after[train] == blocks - 1,) + home[train + 1:]))
        level = following
        length += 1
    return length


class AfterPlanTest(unittest.TestCase):
    def test_the_example(self):
        ride = Ride([(1, 1)] * 4, 1, [2, 3])
        self.assertEqual([best_plan(ride, (2, 3)), after_plan(ride, (2, 3), [1, 0])], [[1, 0], (3, 0)])

    def test_moves(self):
        ride = ride_with(4, 2)
        for places, plan, after in (
            ((0, 2), [], (0, 2)), ((0, 2), [0], (1, 2)), ((0, 2), [1], (0, 3)), ((3, 1), [0], (0, 1)),
            ((3, 1), [1, 1], None), ((0, 2), [1, 0, 0, 1], (2, 0)), ((0, 2), [1, 0, 0], (2, 3)),
            ((1, 0), [0, 0, 0], None), ((1, 0), [0, 0, 1, 0, 1], (0, 2)),
        ):
            if after is None:
                with self.assertRaises(NotFitting):
                    after_plan(ride, places, plan)
            else:
                self.assertEqual(after_plan(ride, places, plan), after)

    def test_all_short_plans(self):
        for blocks in (2, 3, 4):
            for trains in range(1, blocks):
                ride = ride_with(blocks, trains)
                for places in permutations(range(blocks), trains):
                    for plan in product(range(-1, trains + 1), repeat=3):
                        rows = plain_after(blocks, places, plan)
                        self.assertIs(is_plan(ride, places, list(plan)), plain_is_plan(blocks, places, plan))
                        if rows is None:
                            with self.assertRaises(NotFitting):
                                after_plan(ride, places, list(plan))
                        else:
                            self.assertEqual(after_plan(ride, places, list(plan)), rows[-1])


class IsPlanTest(unittest.TestCase):
    def test_home_once_is_enough(self):
        ride = ride_with(4, 2)
        self.assertIs(is_plan(ride, (2, 3), [1, 0]), True)
        self.assertIs(is_plan(ride, (2, 3), [1, 0, 1, 1]), True)
        self.assertIs(is_plan(ride, (2, 3), [1, 0, 1, 0]), True)
        self.assertIs(is_plan(ride, (2, 3), [1]), False)
        self.assertIs(is_plan(ride, (2, 3), []), False)
        self.assertIs(is_plan(ride, (2, 3), [0, 1]), False)
        # After all are home a move that cannot be made is still none.
        self.assertIs(is_plan(ride, (2, 3), [1, 0, 0, 0]), False)

    def test_moves_that_cannot_be_made(self):
        ride = ride_with(3, 1)
        self.assertIs(is_plan(ride, (2,), []), True)
        for plan in ([1], [-1], [0, 2], [0, 0, 0, -1], [0, 0, 0, 1]):
            self.assertIs(is_plan(ride, (2,), plan), False)

    def test_the_plan_is_left_as_it_is(self):
        plan = [1, 0]
        is_plan(ride_with(4, 2), (2, 3), plan)
        after_plan(ride_with(4, 2), (2, 3), plan)
        self.assertEqual(plan, [1, 0])


class BestPlanTest(unittest.TestCase):
    def test_small_rides_from_all_places(self):
        for blocks in (2, 3, 4):
            for trains in range(1, blocks):
                ride = ride_with(blocks, trains)
                for places in permutations(range(blocks), trains):
                    self.assertEqual(best_plan(ride, places), plain_best(blocks, places), (blocks, places))

    def test_five_blocks_with_few_trains(self):
        for trains in (1, 2):
            ride = ride_with(5, trains)
            for places in permutations(range(5), trains):
                self.assertEqual(best_plan(ride, places), plain_best(5, places), places)

    def test_larger_rides(self):
        for blocks in (5, 6, 7):
            for trains in range(1, blocks):
                ride = ride_with(blocks, trains)
                for start in range(blocks):
                    for gap in (0, 1):
                        places = tuple([(start + at + gap * (at > 0)) % blocks for at in range(trains)])
                        if len(set(places)) < trains:
                            continue
                        plan = best_plan(ride, places)
                        self.assertTrue(plain_is_plan(blocks, places, plan))
                        self.assertEqual(len(plan), least_length(blocks, places))
                        self.check_least(blocks, places, plan)

    def check_least(self, blocks, places, plan):
        """No lesser train at any of the moves leads home in as many moves."""
        rows = plain_after(blocks, places, plan)
        for at, train in enumerate(plan):
            for lesser in range(train):
                other = plain_after(blocks, rows[at], [lesser])
                if other is not None:
                    seen = rows[:at + 1] + other[1:]
                    rest = least_rest(blocks, seen, len(plan) - at - 1)
                    self.assertFalse(rest, (places, plan, at, lesser))

    def test_all_home_already(self):
        for blocks in range(2, 8):
            self.assertEqual(best_plan(ride_with(blocks, 1), (blocks - 1,)), [])
            first = best_plan(ride_with(blocks, 1), (blocks - 1,))
            first.append(0)
            self.assertEqual(best_plan(ride_with(blocks, 1), (blocks - 1,)), [])

    def test_one_train(self):
        self.assertEqual(best_plan(ride_with(7, 1), (0,)), [0] * 6)
        self.assertEqual(best_plan(ride_with(7, 1), (5,)), [0])


def least_rest(blocks, rows, most):
    """Whether a plan of at most so many moves goes on from rows of places and brings all trains home."""
    level = {(rows[-1], tuple([any(row[train] == blocks - 1 for row in rows) for train in range(len(rows[0]))]))}
    for _ in range(most):
        following = set()
        for row, home in level:
            for train in range(len(row)):
                if (row[train] + 1) % blocks not in row:
                    after = row[:train] + ((row[train] + 1) % blocks,) + row[train + 1:]
                    is_home = home[train] or after[train] == blocks - 1
                    following.add((after, home[:train] + (is_home,) + home[train + 1:]))
        level = level | following
    return any(all(home) for _, home in level)


class ErrorsTest(unittest.TestCase):
    def test_places_that_do_not_fit(self):
        ride = ride_with(4, 2)
        for places in ((), (1,), (1, 2, 3), (1, 1), (3, 3), (0, 4), (-1, 0), (4, 1), (1, 9)):
            for call in (
                lambda: after_plan(ride, places, []),
                lambda: after_plan(ride, places, [7]),
                lambda: is_plan(ride, places, []),
                lambda: is_plan(ride, places, [-1]),
                lambda: best_plan(ride, places),
            ):
                with self.assertRaises(NotFitting):
                    call()

    def test_moves(self):
        ride = ride_with(4, 2)
        for plan in ([2], [-1], [1, 2], [0], [1, 1, 1, 1]):
            with self.assertRaises(NotFitting):
                after_plan(ride, (2, 3), plan)
            self.assertIs(is_plan(ride, (2, 3), plan), False)

    def test_too_many_blocks(self):
        self.assertEqual(len(best_plan(ride_with(7, 6), tuple(range(6)))), least_length(7, tuple(range(6))))
        for blocks in (8, 12):
            ride = ride_with(blocks, 2)
            with self.assertRaises(TooLarge) as caught:
                best_plan(ride, (0, blocks - 1))
            self.assertEqual(caught.exception.limit, 7)
            with self.assertRaises(NotFitting):
                best_plan(ride, (0, 0))
            self.assertEqual(after_plan(ride, (0, blocks - 1), [0, 1]), (1, 0))
            self.assertIs(is_plan(ride, (blocks - 2, blocks - 1), [1, 0]), True)
        with self.assertRaises(TooLarge):
            best_plan(ride_with(8, 1), (7,))


if __name__ == "__main__":
    unittest.main()
