"""Test runs that meet the goals of a logic."""

from coastersafe.goals import first_runs
from coastersafe.sweeps import Sweep


def goals_of(logic, run):
    """The goals that a run meets."""
    met = {}
    memory = logic.first()
    for inputs in run:
        after = logic.scan(memory, inputs)
        # With one tuple of inputs a vector is the value itself.
        for statement, value in enumerate(Sweep(logic, memory, inputs, 1).told):
            met[(statement, value)] = True
        memory = after
    return sorted(met)


def suite(logic, *, limit=20000):
    """For each goal that can be met the least one of the shortest runs that meet it."""
    return list(first_runs(logic, limit).items())


def is_suite(logic, runs, *, limit=20000):
    """Whether some runs together meet all goals that can be met."""
    goals = list(first_runs(logic, limit))
    met = {}
    for run in runs:
        for goal in goals_of(logic, run):
            met[goal] = True
    return all([goal in met for goal in goals])
