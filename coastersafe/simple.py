"""Simpler conditions, and logics cut down to what is needed."""

from coastersafe.conditions import names_of
from coastersafe.errors import UnknownName
from coastersafe.logic import Logic

ZERO = ("value", 0)
ONE = ("value", 1)


def simplified_condition(condition):
    """The simpler condition with the same value."""
    kind = condition[0]
    if kind in ("value", "name"):
        return condition
    # What a rule gives is a value or a part of simple parts, so no rule can be used on it again.
    parts = [simplified_condition(part) for part in condition[1:]]
    if kind == "not":
        return _simple_not(parts[0])
    if kind == "and":
        return _simple_pair("and", parts[0], parts[1], ZERO, ONE)
    return _simple_pair("or", parts[0], parts[1], ONE, ZERO)


def _simple_not(part):
    if part[0] == "value":
        return ("value", 1 - part[1])
    if part[0] == "not":
        return part[1]
    return ("not", part)


def _simple_pair(kind, left, right, deciding, neutral):
    """The simpler form of two simple parts; with a deciding part it is this, with a neutral one the other part."""
    if deciding in (left, right) or left == ("not", right) or right == ("not", left):
        return deciding
    if left == neutral or left == right:
        return right
    if right == neutral:
        return left
    return (kind, left, right)


def simplified(logic):
    """The logic with all conditions simplified."""
    statements = [(kind, name, simplified_condition(condition)) for kind, name, condition in logic.statements]
    return Logic(logic.inputs, logic.bits, logic.timers, statements, logic.order)


def needed(logic, names):
    """The names of the bits and timers that are needed for some names, in the order of the memory."""
    for name in names:
        if name not in logic.order:
            raise UnknownName(name)
    read = {name: [] for name in logic.order}
    for kind, name, condition in logic.statements:
        read[name].extend([other for other in names_of(condition) if other in read])
    found = {}
    waiting = list(names)
    while waiting:
        name = waiting.pop()
        if name not in found:
            found[name] = True
            waiting.extend(read[name])
    return [name for name in logic.order if name in found]


def cut_down(logic, names):
    """The logic without all that is not needed for some names."""
    kept = needed(logic, names)
    return Logic(
        logic.inputs,
        [(name, start) for name, start in logic.bits if name in kept],
        [(name, limit) for name, limit in logic.timers if name in kept],
        [statement for statement in logic.statements if statement[1] in kept],
        kept,
    )
