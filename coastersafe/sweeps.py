"""Scans of a logic with many tuples of inputs at once.

A vector is a number that stands for some of the tuples of inputs that are looked at: its binary digit i tells whether
tuple i is one of them. The tuples of all inputs are numbered in ascending order.
"""


def all_of(count):
    """The vector of all tuples of so many inputs."""
    return (1 << (1 << count)) - 1


def input_vectors(count):
    """For each of so many inputs the vector of the tuples in which it is 1."""
    vectors = []
    for place in range(count):
        # With one more input in front, all tuples come twice: first with 0, then with 1 in front of them.
        many = 1 << place
        vectors = [vector | vector << many for vector in vectors]
        vectors.append(all_of(place) << many)
    return vectors[::-1]


def first_of(vector):
    """The least number of a vector that is not empty."""
    return (vector & -vector).bit_length() - 1


def inputs_of(number, count):
    """The tuple of so many inputs with a number."""
    return tuple([number >> place & 1 for place in range(count - 1, -1, -1)])


class Sweep:
    """What scans make of one memory: for each bit the vector in which it is 1, for each timer those of its counts.

    The list `told` has for each statement the vector in which its condition was 1.
    """

    def __init__(self, logic, memory, vectors, whole):
        self.told = []
        self._order = logic.order
        self._whole = whole
        self._limits = dict(logic.timers)
        self._vectors = dict(zip(logic.inputs, vectors))
        self._counts = {}
        for name, number in zip(logic.order, memory):
            if name in self._limits:
                self._counts[name] = {number: whole}
            else:
                self._vectors[name] = whole if number == 1 else 0
        for kind, name, condition in logic.statements:
            vector = self.vector(condition)
            self.told.append(vector)
            if kind == "set":
                self._vectors[name] = vector
            else:
                self._count(name, vector)

    def _count(self, name, vector):
        limit = self._limits[name]
        after = {0: self._whole ^ vector}
        for count, where in self._counts[name].items():
            higher = min(count + 1, limit)
            after[higher] = after.get(higher, 0) | where & vector
        self._counts[name] = {count: where for count, where in after.items() if where}

    def vector(self, condition):
        """The vector in which a condition is 1, with what the statements have left so far."""
        kind = condition[0]
        if kind == "value":
            return self._whole if condition[1] == 1 else 0
        if kind == "name":
            return self._vector_of_name(condition[1])
        first = self.vector(condition[1])
        if kind == "not":
            return self._whole ^ first
        if kind == "and":
            return first & self.vector(condition[2])
        return first | self.vector(condition[2])

    def _vector_of_name(self, name):
        if name in self._limits:
            return self._counts[name].get(self._limits[name], 0)
        return self._vectors[name]

    def outcomes(self):
        """The pairs of a vector and the memory after the scans with its inputs, all memories different."""
        return self.refined([(self._whole, ())])

    def refined(self, found):
        """Splits the vectors of pairs by the memories after the scans, and puts these behind the tuples there."""
        for name in self._order:
            parts = self._parts(name)
            found = [
                (within & part, before + (number,))
                for within, before in found
                for number, part in parts
                if within & part
            ]
        return found

    def _parts(self, name):
        """The pairs of a value of a bit, or a count of a timer, and its vector."""
        if name in self._limits:
            return list(self._counts[name].items())
        return [(0, self._whole ^ self._vectors[name]), (1, self._vectors[name])]


def first_outcomes(outcomes):
    """The pairs of the number of the first tuple of inputs and what it leads to, in ascending order."""
    return sorted([(first_of(where), after) for where, after in outcomes])


def is_memory(logic, memory):
    """Whether a tuple may be a memory of a logic."""
    if len(memory) != len(logic.order):
        return False
    limits = dict(logic.timers)
    return all([0 <= number <= limits.get(name, 1) for name, number in zip(logic.order, memory)])
