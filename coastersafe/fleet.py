"""Trains of several kinds on one track."""

from coastersafe.envelope import faults
from coastersafe.errors import NotFitting
from coastersafe.numbers import hull
from coastersafe.train import Train


def worst_train(trains):
    """The train that may do whatever one of some trains does."""
    if not trains:
        raise NotFitting("there is no train")
    first = trains[0]
    friction = first.friction
    brake = first.brake
    for train in trains:
        if train.lift != first.lift or train.drive != first.drive:
            raise NotFitting("the lift and drive energies of a track are the same for all trains")
        friction = hull(friction, train.friction)
        brake = hull(brake, train.brake)
    return Train(max([train.length for train in trains]), friction, brake, first.lift, first.drive)


def are_safe(layout, trains):
    """Whether a layout has no fault with any of some trains."""
    return all([faults(layout, train) == [] for train in trains])


def worst_faults(layout, trains):
    """The faults of a layout and the worst train."""
    return faults(layout, worst_train(trains))
