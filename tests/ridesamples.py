"""Rides, logics for rides, and a plain search through scenes that several tests look at."""

from itertools import product

from coastersafe.control import scanned, standard_logic
from coastersafe.logic import Logic, format_logic, parse_logic
from coastersafe.ride import Ride

ALL_BUTTONS = list(product((0, 1), repeat=3))
GO = (1, 0, 0)
STOP = (0, 1, 0)
OPEN = (0, 0, 1)
NOTHING = (0, 0, 0)

# The blocks, whether ways are short or long, the scans of a passage, and the trains in any order.
SMALL_RIDES = [
    ([(1, 1), (1, 1)], 1, [1]),
    ([(1, 1), (1, 1)], 1, [0]),
    ([(1, 3), (2, 2)], 2, [1]),
    ([(2, 4), (1, 1)], 3, [0]),
    ([(1, 1), (1, 1), (1, 1)], 1, [2]),
    ([(1, 1), (1, 1), (1, 1)], 1, [2, 0]),
    ([(1, 2), (1, 1), (1, 1)], 2, [1, 2]),
    ([(1, 1), (1, 2), (1, 1)], 1, [0, 1]),
    ([(1, 1), (1, 1), (1, 1), (1, 1)], 1, [3, 0, 2]),
]
LARGE_RIDES = [
    ([(1, 2), (1, 1), (2, 5), (1, 1)], 2, [1, 3, 0]),
    ([(3, 6), (1, 9), (2, 2), (1, 1), (4, 4)], 4, [4, 2]),
    ([(1, 1)] * 12, 1, [11, 10, 9, 8, 7, 6, 5, 4, 3, 2, 0]),
    ([(1, 3), (2, 7)] * 6, 5, [0, 2, 5, 7, 11]),
    ([(1, 99)] * 12, 20, [11]),
]


def rides(samples):
    return [Ride(*sample) for sample in samples]


def sensor_names(blocks):
    return [f"s{block}{letter}" for block in range(blocks) for letter in "ab"]


def caliper_names(blocks):
    return [f"b{block}{letter}" for block in range(blocks) for letter in "ab"]


def input_names(blocks):
    return sensor_names(blocks) + ["pa", "pb", "go", "stop", "open"]


def logic_for(blocks, statements=(), bits=()):
    """A logic that fits rides of so many blocks: its calipers are closed and its bars, too, but for the statements."""
    lines = ["input " + name for name in input_names(blocks)]
    lines += [f"bit {name} 0" for name in caliper_names(blocks) + ["bars"]]
    lines += [f"bit {name} 0" for name in bits]
    return parse_logic("\n".join(lines + list(statements)))


def reckless(blocks):
    """A logic that opens all brakes at `go`, and the bars at `open`."""
    lines = [f"{name} := go" for name in caliper_names(blocks)]
    return logic_for(blocks, lines + ["bars := open"])


def changed(logic, *replaced):
    """The logic with some parts of its text replaced."""
    text = format_logic(logic)
    for old, new in replaced:
        assert old in text, old
        text = text.replace(old, new)
    return parse_logic(text)


def copied(logic, **fields):
    """The logic with other fields."""
    names = ("inputs", "bits", "timers", "statements", "order")
    return Logic(*[fields.get(name, getattr(logic, name)) for name in names])


def has_choice(ride, train):
    """Whether a train may arrive or leave in the next move, but need not."""
    kind, block, age = train
    if kind == "way":
        return ride.ways[block][0] <= age + 1 < ride.ways[block][1]
    return kind == "over" and 1 <= age + 1 < ride.over


def plain_choices(ride, state, faults):
    lates = list(product(*[(0, 1) if has_choice(ride, train) else (0,) for train in state[0]]))
    new = [None] + list(faults) if state[2] is None else [None]
    return list(product(ALL_BUTTONS, lates, new))


class Explorer:
    """Scenes of a ride with a logic, found by `scanned` alone."""

    def __init__(self, ride, logic=None):
        self.ride = ride
        self.logic = standard_logic(ride) if logic is None else logic
        self.first = (ride.first(), self.logic.first())

    def after(self, scene, choice):
        return scanned(self.ride, self.logic, *scene, *choice)

    def edges(self, scene, faults, buttons=None):
        """The pairs of choices and scenes after a scene."""
        found = plain_choices(self.ride, scene[0], faults)
        return [(choice, self.after(scene, choice)) for choice in found if buttons in (None, choice[0])]

    def reached(self, faults=(), buttons=None):
        """All reached scenes, in the order in which they are found."""
        found = {self.first: True}
        waiting = [self.first]
        while waiting:
            following = []
            for scene in waiting:
                for _, after in self.edges(scene, faults, buttons):
                    if after not in found:
                        found[after] = True
                        following.append(after)
            waiting = following
        return list(found)

    def edges_without_stop(self):
        """All scenes that are reached without `stop` and without faults, with their edges without `stop`."""
        known = {self.first}
        waiting = [self.first]
        while waiting:
            scene = waiting.pop()
            for choice, after in self.edges(scene, []):
                if choice[0][1] == 0:
                    yield scene, choice, after
                    if after not in known:
                        known.add(after)
                        waiting.append(after)


def random_scans(random, ride, count, fault=None, at=0, weights=(1, 1, 1)):
    """Scans for a play with drawn buttons and late trains, and with a fault at one of them."""
    scans = []
    for number in range(count):
        buttons = tuple([int(random.random() * 10 < weight) for weight in weights])
        late = tuple([random.randint(0, 1) for _ in ride.trains])
        scans.append((buttons, late, fault if number == at else None))
    return scans
