"""Conditions and logics that several tests look at, and another reader of conditions."""

from itertools import product

from coastersafe.logic import format_condition


def chained(word, depth, part=("name", "a")):
    """A condition of a depth that goes down to the left."""
    condition = part
    for _ in range(depth - 1):
        condition = ("not", condition) if word == "not" else (word, condition, ("name", "b"))
    return condition


def nested(word, depth):
    """A condition of a depth that goes down to the right."""
    condition = ("name", "a")
    for _ in range(depth - 1):
        condition = (word, ("name", "b"), condition)
    return condition


def small_conditions():
    """All conditions of a depth up to 3 over few parts."""
    flat = [("value", 1), ("name", "a")]
    twice = flat + compounds(flat)
    return twice + compounds(twice)


def compounds(parts):
    found = [("not", part) for part in parts]
    for word in ("and", "or"):
        found += [(word, left, right) for left, right in product(parts, repeat=2)]
    return found


def random_condition(random, names, depth):
    if depth == 1 or random.random() < 0.15:
        if random.random() < 0.15:
            return ("value", random.randint(0, 1))
        return ("name", random.choice(names))
    kind = random.choice(["not", "and", "or"])
    parts = [random_condition(random, names, depth - 1) for _ in range(1 if kind == "not" else 2)]
    return (kind, *parts)


def plainly_read(text):
    """The condition of a text, read by descent; it takes well-formed texts only."""
    words = text.split(" ")

    def joined(word, inner):
        left = inner()
        while words and words[0] == word:
            words.pop(0)
            left = (word, left, inner())
        return left

    def part():
        word = words.pop(0)
        if word == "not":
            return ("not", part())
        if word == "(":
            condition = whole()
            assert words.pop(0) == ")"
            return condition
        return ("value", int(word)) if word in "01" else ("name", word)

    def whole():
        return joined("or", lambda: joined("and", part))

    condition = whole()
    assert not words
    return condition


def bracketed(condition):
    """A text with brackets around every part."""
    if condition[0] == "value":
        return f"( {condition[1]} )"
    if condition[0] == "name":
        return condition[1]
    parts = [bracketed(part) for part in condition[1:]]
    if condition[0] == "not":
        return f"( not {parts[0]} )"
    return f"( {parts[0]} {condition[0]} {parts[1]} )"


def plain_value(condition, values):
    """The value of a condition, by the values that its names have in it."""
    if condition[0] == "value":
        return condition[1]
    if condition[0] == "name":
        return values[condition[1]]
    parts = [plain_value(part, values) for part in condition[1:]]
    if condition[0] == "not":
        return 1 - parts[0]
    return parts[0] & parts[1] if condition[0] == "and" else parts[0] | parts[1]


def wide_text(inputs=1, bits=1, timers=1, statements=1):
    lines = [f"input i{number}" for number in range(inputs)]
    lines += [f"bit b{number} {number % 2}" for number in range(bits)]
    lines += [f"timer t{number} {number + 1}" for number in range(timers)]
    for number in range(statements):
        lines.append(f"b{number % bits} := i0" if number % 2 else f"t{number % timers} counts b0")
    return "\n".join(lines)


def random_logic_text(random):
    """The text of some logic with two inputs, three bits and two timers, all in some order."""
    lines = ["input i", "input j", "bit x 0", "bit y 1", "bit z 0", "timer t 1", "timer u 3"]
    random.shuffle(lines)
    for _ in range(random.randint(0, 8)):
        name, word = random.choice([("x", ":="), ("y", ":="), ("z", ":="), ("t", "counts"), ("u", "counts")])
        condition = random_condition(random, ["i", "j", "x", "y", "z", "t", "u"], random.randint(1, 4))
        lines.append(f"{name} {word} {format_condition(condition)}")
    return "\n".join(lines)


def plainly_done(logic, memory, told):
    """The values of the conditions of all statements when they are done in a scan, and the memory after it."""
    values = dict(zip(logic.inputs + logic.order, told + memory))
    limits = dict(logic.timers)
    done = []
    for kind, name, condition in logic.statements:
        seen = {other: int(values[other] == limits[other]) if other in limits else values[other] for other in values}
        value = plain_value(condition, seen)
        done.append(value)
        if kind == "count":
            value = min(values[name] + 1, limits[name]) if value else 0
        values[name] = value
    return done, tuple([values[name] for name in logic.order])


def all_told(logic):
    """All tuples of inputs, in ascending order."""
    return list(product((0, 1), repeat=len(logic.inputs)))


def plainly_reached(logic):
    """For each reached memory the least one of the shortest runs that lead to it, in the order of these runs."""
    runs = {logic.first(): []}
    level = [logic.first()]
    while level:
        following = []
        for memory in level:
            for told in all_told(logic):
                after = plainly_done(logic, memory, told)[1]
                if after not in runs:
                    runs[after] = runs[memory] + [told]
                    following.append(after)
        level = following
    return runs


def plain_goals(logic):
    """For each goal that can be met, ascending, the least one of the shortest runs that meet it."""
    found = {}
    for memory, run in plainly_reached(logic).items():
        for told in all_told(logic):
            for statement, value in enumerate(plainly_done(logic, memory, told)[0]):
                shown = run + [told]
                goal = (statement, value)
                if goal not in found or (len(shown), shown) < (len(found[goal]), found[goal]):
                    found[goal] = shown
    return {goal: found[goal] for goal in sorted(found)}
