"""What a track needs: the least lift energy and strength of brakes, and the longest train."""

from coastersafe.envelope import faults
from coastersafe.train import MOST_BRAKE, MOST_ENERGY, MOST_LENGTH, Train


def with_lift(train, lift):
    """The train with another lift energy."""
    return Train(train.length, train.friction, train.brake, lift, train.drive)


def with_strength(train, strength):
    """The train with a brake of at least a strength, and at most the greater of it and the greatest one so far."""
    brake = (strength, max(strength, train.brake[1]))
    return Train(train.length, train.friction, brake, train.lift, train.drive)


def least_lift(layout, train):
    """The least lift energy with which no train stalls, or None."""
    return _least_enough(MOST_ENERGY, lambda lift: not _has_fault("stall", layout, with_lift(train, lift)))


def least_strength(layout, train):
    """The least strength with which no block is too fast, or None."""
    return _least_enough(
        MOST_BRAKE, lambda strength: not _has_fault("fast", layout, with_strength(train, strength))
    )


def _has_fault(kind, layout, train):
    return any([found == kind for found, block in faults(layout, train)])


def _least_enough(most, is_enough):
    """The least number from 1 on that is enough, or None; if one is, each greater one is, too."""
    if not is_enough(most):
        return None
    low = 1
    high = most
    while low < high:
        middle = (low + high) // 2
        if is_enough(middle):
            high = middle
        else:
            low = middle + 1
    return high


def longest_train(layout):
    """The greatest length of trains for which no block is too short, or None."""
    shortest = min([layout.brake(block) - layout.begin(block) for block in range(layout.blocks())])
    if shortest == 0:
        return None
    return min(shortest, MOST_LENGTH)
