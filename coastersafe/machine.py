"""A machine with a stack and slots, and logics compiled for it."""


def compiled(logic):
    """The instructions that do what a scan of a logic does."""
    slots = {name: slot for slot, name in enumerate(logic.inputs + logic.order)}
    limits = dict(logic.timers)
    instructions = []
    for kind, name, condition in logic.statements:
        instructions.extend(_condition_code(condition, slots, limits))
        if kind == "set":
            instructions.append(("set", slots[name]))
        else:
            instructions.append(("count", slots[name], limits[name]))
    return instructions


def _condition_code(condition, slots, limits):
    kind = condition[0]
    if kind == "value":
        return [("push", condition[1])]
    if kind == "name":
        return [_name_code(condition[1], slots, limits)]
    code = []
    for part in condition[1:]:
        code.extend(_condition_code(part, slots, limits))
    code.append((kind,))
    return code


def _name_code(name, slots, limits):
    if name in limits:
        return ("reached", slots[name], limits[name])
    return ("load", slots[name])


def run_compiled(instructions, slots):
    """The slots after all instructions."""
    after = list(slots)
    stack = []
    for instruction in instructions:
        if instruction[0] in ("set", "count"):
            _store(instruction, after, stack.pop())
        else:
            _compute(instruction, after, stack)
    return after


def _store(instruction, slots, value):
    slot = instruction[1]
    if instruction[0] == "set":
        slots[slot] = value
    elif value == 0:
        slots[slot] = 0
    elif slots[slot] < instruction[2]:
        slots[slot] += 1


def _compute(instruction, slots, stack):
    """Puts on the stack what an instruction gives, in the place of what it takes."""
    kind = instruction[0]
    if kind == "push":
        stack.append(instruction[1])
    elif kind == "load":
        stack.append(slots[instruction[1]])
    elif kind == "reached":
        stack.append(1 if slots[instruction[1]] == instruction[2] else 0)
    elif kind == "not":
        stack.append(1 - stack.pop())
    else:
        right = stack.pop()
        left = stack.pop()
        stack.append(min(left, right) if kind == "and" else max(left, right))
