"""What a logic uses: names that are read and written, bits that are constant, and statements that are settled."""

from coastersafe.checker import reached
from coastersafe.conditions import names_of
from coastersafe.goals import first_runs
from coastersafe.logic import check_names


def readers(logic, name):
    """The numbers of the statements that read a name."""
    check_names(logic, [name])
    read = [names_of(condition) for kind, written, condition in logic.statements]
    return [number for number, names in enumerate(read) if name in names]


def writers(logic, name):
    """The numbers of the statements that write a name."""
    check_names(logic, [name])
    return [number for number, statement in enumerate(logic.statements) if statement[1] == name]


def idle(logic):
    """The names that no statement reads."""
    read = {name: True for kind, written, condition in logic.statements for name in names_of(condition)}
    return [name for name in logic.inputs + logic.order if name not in read]


def constant_bits(logic, *, limit=20000):
    """The pairs of a bit that has the same value in all reached memories, and this value."""
    memories = reached(logic, limit=limit)
    starts = dict(logic.bits)
    found = []
    for place, name in enumerate(logic.order):
        if name in starts and all([memory[place] == starts[name] for memory in memories]):
            found.append((name, starts[name]))
    return found


def settled(logic, *, limit=20000):
    """The pairs of a statement whose condition always has the same value, and this value."""
    goals = first_runs(logic, limit)
    return [(number, value) for number, value in goals if (number, 1 - value) not in goals]
