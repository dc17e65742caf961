"""Exact checks of logics: invariants, and runs that break a condition."""

from coastersafe.conditions import names_of
from coastersafe.logic import check_names, condition_value
from coastersafe.search import BROKEN, searched
from coastersafe.sweeps import Sweep, all_of, first_of, first_outcomes, input_vectors, inputs_of, is_memory

NEVER = ("value", 0)


class Memories:
    """The memories of a logic as a space to be searched; a step is a number of inputs that are scanned."""

    def __init__(self, logic, condition):
        self._logic = logic
        self._condition = condition
        self._vectors = input_vectors(len(logic.inputs))
        self._whole = all_of(len(logic.inputs))

    def looked(self, memory):
        """The scans of a memory with all inputs."""
        return Sweep(self._logic, memory, self._vectors, self._whole)

    def bad_step(self, view):
        """The least inputs with which the condition is broken, or None."""
        vector = view.vector(self._condition)
        return None if vector == 0 else first_of(vector)

    def steps(self, view):
        """The memories that are reached, each with the least inputs that lead to it."""
        return first_outcomes(view.outcomes())


def check(logic, condition, *, limit=20000):
    """An invariant that shows that no run breaks a condition, or the least one of the shortest runs that do."""
    check_names(logic, names_of(condition))
    kind, found = searched(Memories(logic, condition), logic.first(), limit)
    if kind == BROKEN:
        return ("broken", [inputs_of(number, len(logic.inputs)) for number in found])
    return ("always", sorted(found))


def is_invariant(logic, condition, memories):
    """Whether a list of memories shows that no run breaks a condition."""
    check_names(logic, names_of(condition))
    if not all([is_memory(logic, memory) for memory in memories]):
        return False
    known = {memory: True for memory in memories}
    if logic.first() not in known:
        return False
    space = Memories(logic, condition)
    for memory in known:
        view = space.looked(memory)
        if space.bad_step(view) is not None:
            return False
        if not all([after in known for number, after in space.steps(view)]):
            return False
    return True


def breaks(logic, condition, run):
    """Whether a condition is 1 after the last scan of a run."""
    check_names(logic, names_of(condition))
    if not run:
        return False
    memory = logic.first()
    for inputs in run:
        memory = logic.scan(memory, inputs)
    return condition_value(logic, memory, run[-1], condition) == 1


def reached(logic, *, limit=20000):
    """The reached memories, in ascending order."""
    _, found = searched(Memories(logic, NEVER), logic.first(), limit)
    return sorted(found)
