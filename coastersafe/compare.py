"""Logics that do the same for some of their bits, and runs that show that they do not."""

from coastersafe.errors import NotFitting, UnknownName
from coastersafe.search import BROKEN, searched
from coastersafe.sweeps import Sweep, all_of, first_of, first_outcomes, input_vectors, inputs_of


class Pairs:
    """The pairs of a memory of each of two logics as a space to be searched; a step is a number of inputs."""

    def __init__(self, first, second, names):
        self._first = first
        self._second = second
        self._conditions = [("name", name) for name in names]
        self._vectors = input_vectors(len(first.inputs))
        self._whole = all_of(len(first.inputs))

    def looked(self, pair):
        """The scans of both memories with all inputs."""
        return (
            Sweep(self._first, pair[0], self._vectors, self._whole),
            Sweep(self._second, pair[1], self._vectors, self._whole),
        )

    def bad_step(self, view):
        """The least inputs after which one of the bits differs, or None."""
        differing = 0
        for condition in self._conditions:
            differing = differing | (view[0].vector(condition) ^ view[1].vector(condition))
        return None if differing == 0 else first_of(differing)

    def steps(self, view):
        """The pairs that are reached, each with the least inputs that lead to it."""
        many = len(self._first.order)
        found = view[1].refined(view[0].outcomes())
        return first_outcomes([(where, (numbers[:many], numbers[many:])) for where, numbers in found])


def compare(first, second, names, *, limit=20000):
    """All pairs, if two logics do the same for some names of bits, or the least of the shortest runs that differ."""
    if first.inputs != second.inputs:
        raise NotFitting("the logics have different inputs")
    _check_bits(first, second, names)
    if any([first.value(first.first(), name) != second.value(second.first(), name) for name in names]):
        return ("different", [])
    kind, found = searched(Pairs(first, second, names), (first.first(), second.first()), limit)
    if kind == BROKEN:
        return ("different", [inputs_of(number, len(first.inputs)) for number in found])
    return ("same", sorted(found))


def _check_bits(first, second, names):
    bits = dict(first.bits)
    others = dict(second.bits)
    for name in names:
        if name not in bits or name not in others:
            raise UnknownName(name)
