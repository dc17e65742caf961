"""Layouts and trains that several tests look at."""

from random import Random

from coastersafe.layout import Layout
from coastersafe.train import Train

EXAMPLE = [("lift", 20, 30), ("coast", 10, -60), ("brake", 5, 0), ("coast", 4, 0), ("brake", 6, 0)]
TRAIN = Train(3, (100, 300), (200000, 250000), 40000, 10000)
# Begins in a lift that falls, has slopes of both signs in each kind, and a block that is a brake alone.
MIXED = [
    ("lift", 2, -40), ("coast", 3, 25), ("coast", 2, -15), ("brake", 3, 10),
    ("brake", 2, -30),
    ("coast", 4, 7), ("lift", 2, 35), ("coast", 5, -3), ("brake", 1, 12), ("brake", 2, 0),
]


def example():
    return Layout(EXAMPLE)


def rounded(segments):
    """The segments, with single metres before the last one that lead back to the height of the begin."""
    height = sum([length * slope for _, length, slope in segments])
    more = []
    while height != 0:
        step = max(-100, min(100, -height))
        more.append(("coast", 1, step))
        height += step
    return segments[:-1] + more + segments[-1:]


def mixed():
    return Layout(rounded(MIXED))


def random_layout(random, steepness=60):
    """Some layout of two to four blocks."""
    segments = []
    for _ in range(random.randint(2, 4)):
        for _ in range(random.randint(0, 3)):
            kind = random.choice(["coast", "coast", "lift"])
            segments.append((kind, random.randint(1, 6), random.randint(-steepness, steepness)))
        segments.append(("brake", random.randint(1, 6), random.randint(-10, 10)))
    return Layout(rounded(segments))


def random_train(random):
    frictions = sorted([random.choice([0, 50, 400, 5000, 60000]) for _ in range(2)])
    brakes = sorted([random.choice([1, 3000, 50000, 200000, 1000000]) for _ in range(2)])
    energies = [random.choice([1, 500, 10000, 40000, 300000]) for _ in range(2)]
    return Train(random.randint(1, 8), tuple(frictions), tuple(brakes), *energies)


def fleets(seed, count, steepness=60):
    """Pairs of layouts and trains; the same for the same seed."""
    random = Random(seed)
    return [(random_layout(random, steepness), random_train(random)) for _ in range(count)]
