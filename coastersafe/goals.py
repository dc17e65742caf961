"""Goals of a logic: statements whose conditions are 0 or 1 when they are done."""

from coastersafe.checker import NEVER, Memories
from coastersafe.search import searched, steps_to
from coastersafe.sweeps import all_of, first_of, inputs_of


class Goals:
    """The memories of a logic as a space to be searched, in which it is noted where each goal is met first."""

    def __init__(self, logic):
        self._memories = Memories(logic, NEVER)
        self._whole = all_of(len(logic.inputs))
        self.met = {}

    def looked(self, memory):
        """The scans of a memory with all inputs."""
        view = self._memories.looked(memory)
        for statement, vector in enumerate(view.told):
            self._note((statement, 0), memory, self._whole ^ vector)
            self._note((statement, 1), memory, vector)
        return view

    def _note(self, goal, memory, vector):
        if vector != 0 and goal not in self.met:
            self.met[goal] = (memory, first_of(vector))

    def bad_step(self, view):
        """None, since nothing is bad here."""
        return self._memories.bad_step(view)

    def steps(self, view):
        """The memories that are reached, each with the least inputs that lead to it."""
        return self._memories.steps(view)


def first_runs(logic, limit):
    """For each goal that can be met, in ascending order, the least one of the shortest runs that meet it."""
    space = Goals(logic)
    _, befores = searched(space, logic.first(), limit)
    runs = {}
    for goal in sorted(space.met):
        memory, last = space.met[goal]
        runs[goal] = [inputs_of(number, len(logic.inputs)) for number in steps_to(befores, memory) + [last]]
    return runs
