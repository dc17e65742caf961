"""Exact checks of rides: all that can happen to a ride with a logic."""

from coastersafe.control import check_fit, commanded
from coastersafe.errors import NotFitting
from coastersafe.ride import dangers, is_state, moved, readings
from coastersafe.search import BROKEN, searched
from coastersafe.sweeps import Sweep, all_of, input_vectors, inputs_of, is_memory

COUNT_OF_BUTTONS = 3


def choices(ride, state, faults):
    """The choices of a scan from a state."""
    moves = _choices_of_move(ride, state, faults)
    return [(buttons, late, fault) for buttons in _all_buttons() for late, fault in moves]


def _all_buttons():
    return [inputs_of(number, COUNT_OF_BUTTONS) for number in range(1 << COUNT_OF_BUTTONS)]


def _choices_of_move(ride, state, faults):
    may_come = [None]
    if state[2] is None:
        may_come.extend(faults)
    return [(late, fault) for late in late_choices(ride, state[0]) for fault in may_come]


def is_choice(ride, state, faults, choice):
    """Whether a tuple `(buttons, late, fault)` is one of the choices from a state."""
    buttons, late, fault = choice
    may_come = fault is None or (state[2] is None and fault in faults)
    return may_come and late in late_choices(ride, state[0])


def late_choices(ride, trains):
    """The tuples that tell which trains are late, in ascending order; 0 for trains without a choice."""
    lates = [()]
    for train in trains:
        numbers = (0, 1) if _has_choice(ride, train) else (0,)
        lates = [late + (number,) for late in lates for number in numbers]
    return lates


def _has_choice(ride, train):
    kind, block, age = train
    if kind == "held":
        return False
    if kind == "over":
        return age + 1 < ride.over
    shortest, longest = ride.ways[block]
    return shortest <= age + 1 < longest


class Scenes:
    """The scenes of a ride with a logic as a space to be searched; a step is a choice of a scan."""

    def __init__(self, ride, logic, faults):
        self._ride = ride
        self._logic = logic
        self._faults = list(faults)
        self._dangers = {}

    def first(self):
        """The scene at the beginning."""
        return (self._ride.first(), self._logic.first())

    def looked(self, scene):
        """The pairs of each choice, in their order, and the scene that it leads to."""
        state, memory = scene
        moves = _choices_of_move(self._ride, state, self._faults)
        after_commands = {}
        view = []
        for buttons, after in zip(_all_buttons(), self._memories_after(state, memory)):
            told = commanded(self._ride, self._logic, after)
            if told not in after_commands:
                commands, bars = told
                after_commands[told] = [
                    moved(self._ride, state, commands, bars, late, fault) for late, fault in moves
                ]
            for (late, fault), state_after in zip(moves, after_commands[told]):
                view.append(((buttons, late, fault), (state_after, after)))
        return view

    def _memories_after(self, state, memory):
        """The memories after the scans with each tuple of buttons, in their order."""
        whole = all_of(COUNT_OF_BUTTONS)
        sensors = [whole if told == 1 else 0 for told in readings(self._ride, state)]
        sweep = Sweep(self._logic, memory, sensors + input_vectors(COUNT_OF_BUTTONS), whole)
        by_number = {}
        for where, after in sweep.outcomes():
            for number in range(1 << COUNT_OF_BUTTONS):
                if where >> number & 1:
                    by_number[number] = after
        return [by_number[number] for number in range(1 << COUNT_OF_BUTTONS)]

    def bad_step(self, view):
        """The first choice that leads to a danger, or None."""
        for choice, (state, memory) in view:
            if self.is_dangerous(state):
                return choice
        return None

    def is_dangerous(self, state):
        """Whether a state has a danger."""
        if state not in self._dangers:
            self._dangers[state] = dangers(self._ride, state) != []
        return self._dangers[state]

    def steps(self, view):
        """The pairs of each choice and the scene that it leads to."""
        return view

    def is_scene(self, scene):
        """Whether a pair is one of a state of the ride and a memory of the logic."""
        return is_state(self._ride, scene[0]) and is_memory(self._logic, scene[1])


def check_ride(ride, logic, faults, *, limit=5000):
    """All scenes, if none has a danger, or the first one of the shortest lists of choices that lead to one."""
    check_parts(ride, logic, faults)
    space = Scenes(ride, logic, faults)
    kind, found = searched(space, space.first(), limit)
    if kind == BROKEN:
        return ("unsafe", found)
    return ("safe", list(found))


def check_parts(ride, logic, faults):
    """Raises NotFitting if a logic does not fit a ride, or a fault has a part that the ride has not."""
    check_fit(ride, logic)
    parts = ride.parts()
    if not all([part in parts for part, number in faults]):
        raise NotFitting("the ride has no such part")


def is_safe_list(ride, logic, faults, scenes):
    """Whether a list of scenes shows that no scene with a danger is reached."""
    check_parts(ride, logic, faults)
    space = Scenes(ride, logic, faults)
    if not all([space.is_scene(scene) for scene in scenes]):
        return False
    known = {scene: True for scene in scenes}
    if space.first() not in known:
        return False
    for scene in known:
        if space.is_dangerous(scene[0]):
            return False
        if not all([after in known for choice, after in space.looked(scene)]):
            return False
    return True


def all_faults(ride):
    """All faults of a ride."""
    return [(part, number) for part in ride.parts() for number in (0, 1)]
