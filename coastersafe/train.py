"""Trains and the bounds of what moves and brakes them."""

from coastersafe.errors import InvalidTrain
from coastersafe.numbers import is_interval

MOST_LENGTH = 100
MOST_FRICTION = 100000
MOST_BRAKE = 1000000
MOST_ENERGY = 10000000


class Train:
    """A train with its length, its intervals of friction and brake, and the energies of lifts and drive."""

    def __init__(self, length, friction, brake, lift, drive):
        if not 1 <= length <= MOST_LENGTH:
            raise InvalidTrain("the length is out of its range")
        if not _lies_within(friction, 0, MOST_FRICTION):
            raise InvalidTrain("the friction is no interval of its range")
        if not _lies_within(brake, 1, MOST_BRAKE):
            raise InvalidTrain("the brake is no interval of its range")
        if not 1 <= lift <= MOST_ENERGY or not 1 <= drive <= MOST_ENERGY:
            raise InvalidTrain("an energy is out of its range")
        self.length = length
        self.friction = friction
        self.brake = brake
        self.lift = lift
        self.drive = drive


def _lies_within(pair, least, greatest):
    return is_interval(pair) and least <= pair[0] and pair[1] <= greatest
