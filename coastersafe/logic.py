"""The language for logics: reading, writing and scanning them."""

from coastersafe.conditions import evaluated, names_of, read_condition, written_condition
from coastersafe.declarations import DECLARING, Declarations
from coastersafe.errors import InvalidText, NotFitting, UnknownName

MOST_STATEMENTS = 400
STATED = {":=": "bit", "counts": "timer"}
TOLD = {":=": "set", "counts": "count"}


class Logic:
    """A program that is run once in each scan."""

    def __init__(self, inputs, bits, timers, statements, order):
        self.inputs = tuple(inputs)
        self.bits = tuple(bits)
        self.timers = tuple(timers)
        self.statements = tuple(statements)
        self.order = tuple(order)
        self._limits = dict(self.timers)

    def __eq__(self, other):
        return (
            isinstance(other, Logic)
            and self.inputs == other.inputs
            and self.bits == other.bits
            and self.timers == other.timers
            and self.statements == other.statements
            and self.order == other.order
        )

    def first(self):
        """The memory at the beginning."""
        starts = dict(self.bits)
        return tuple([starts.get(name, 0) for name in self.order])

    def scan(self, memory, inputs):
        """The memory after a scan."""
        values = self.named_values(memory, inputs)
        for kind, name, condition in self.statements:
            value = self.value_of(condition, values)
            if kind == "set":
                values[name] = value
            elif value == 0:
                values[name] = 0
            elif values[name] < self._limits[name]:
                values[name] += 1
        return tuple([values[name] for name in self.order])

    def value(self, memory, name):
        """The value of a bit or the count of a timer in a memory."""
        if name not in self.order:
            raise UnknownName(name)
        return memory[self.order.index(name)]

    def named_values(self, memory, inputs):
        """A dict of the values of all names."""
        if len(memory) != len(self.order) or len(inputs) != len(self.inputs):
            raise NotFitting("a memory or the inputs have a wrong length")
        return dict(zip(self.inputs + self.order, inputs + memory))

    def value_of(self, condition, values):
        """The value of a condition, by the values of all names."""
        return evaluated(condition, values, self._limits)


def parse_logic(text):
    """The logic that a text tells."""
    return read_program(text, _read_statement)


def read_program(text, read_statement):
    """The logic that a text tells: declarations, and then lines that a function reads as statements.

    The function takes the declarations and the words of a line; it gives None for a line that is no statement.
    """
    declared = Declarations()
    statements = []
    for number, line in enumerate(text.split("\n"), start=1):
        words = line.split(" ")
        if words[0] in DECLARING:
            if statements or not declared.declare(words):
                raise InvalidText(number)
        else:
            statement = read_statement(declared, words)
            if statement is None or len(statements) == MOST_STATEMENTS:
                raise InvalidText(number)
            statements.append(statement)
    return Logic(declared.inputs, declared.bits, declared.timers, statements, declared.order)


def _read_statement(declared, words):
    if len(words) < 3 or words[1] not in STATED or declared.kind(words[0]) != STATED[words[1]]:
        return None
    condition = read_condition(words[2:])
    if condition is None or not all([declared.kind(name) is not None for name in names_of(condition)]):
        return None
    return (TOLD[words[1]], words[0], condition)


def format_logic(logic):
    """The text of a logic."""
    lines = declared_lines(logic)
    for kind, name, condition in logic.statements:
        word = ":=" if kind == "set" else "counts"
        lines.append(f"{name} {word} {written_condition(condition)}")
    return "\n".join(lines)


def declared_lines(logic):
    """The lines of the declarations of a logic."""
    starts = dict(logic.bits)
    limits = dict(logic.timers)
    lines = ["input " + name for name in logic.inputs]
    for name in logic.order:
        if name in limits:
            lines.append(f"timer {name} {limits[name]}")
        else:
            lines.append(f"bit {name} {starts[name]}")
    return lines


def condition_value(logic, memory, inputs, condition):
    """The value of a condition, with the values of a memory and inputs."""
    values = logic.named_values(memory, inputs)
    check_names(logic, names_of(condition))
    return logic.value_of(condition, values)


def check_names(logic, names):
    """Raises UnknownName for the first one of some names that is not declared."""
    for name in names:
        if name not in logic.inputs and name not in logic.order:
            raise UnknownName(name)


def parse_condition(text):
    """The condition that a text tells; its names need not be declared."""
    condition = read_condition(text.split(" "))
    if condition is None:
        raise InvalidText(1)
    return condition


def format_condition(condition):
    """The text of a condition."""
    return written_condition(condition)
