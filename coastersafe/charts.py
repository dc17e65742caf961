"""Charts of runs: one line of signs for each name."""

from coastersafe.errors import InvalidText
from coastersafe.logic import check_names

ONE = "-"
ZERO = "_"
AT_LIMIT = "^"
AT_ZERO = "."
BETWEEN = ":"


def chart(logic, run, names):
    """The text of a chart that shows some names."""
    check_names(logic, names)
    limits = dict(logic.timers)
    rows = []
    memory = logic.first()
    for inputs in run:
        memory = logic.scan(memory, inputs)
        rows.append(logic.named_values(memory, inputs))
    lines = [[_sign(row[name], limits.get(name)) for row in rows] for name in names]
    return "\n".join([name + " " + "".join(signs) for name, signs in zip(names, lines)])


def _sign(number, limit):
    """The sign for a value, or for a count of a timer with a limit."""
    if limit is None:
        return ONE if number == 1 else ZERO
    if number == limit:
        return AT_LIMIT
    return AT_ZERO if number == 0 else BETWEEN


def run_of_chart(logic, text):
    """The run that a chart tells."""
    rows = _read_rows(logic, text)
    scans = len(list(rows.values())[0]) if rows else 0
    return [tuple([1 if rows[name][at] == ONE else 0 for name in logic.inputs]) for at in range(scans)]


def _read_rows(logic, text):
    """A dict of the signs of each name of a chart, in the order of its lines."""
    # The chart of no names has no line.
    lines = text.split("\n") if text else []
    rows = {}
    scans = None
    for number, line in enumerate(lines, start=1):
        name, space, signs = line.partition(" ")
        if space == "" or name in rows or not _are_signs(logic, name, signs):
            raise InvalidText(number)
        if scans is None:
            scans = len(signs)
        if len(signs) != scans:
            raise InvalidText(number)
        rows[name] = signs
    if not all([name in rows for name in logic.inputs]):
        raise InvalidText(len(lines) + 1)
    return rows


def _are_signs(logic, name, signs):
    """Whether a name is declared, and signs are of its kind."""
    if name in dict(logic.timers):
        return all([sign in (AT_LIMIT, AT_ZERO, BETWEEN) for sign in signs])
    is_declared = name in logic.inputs or name in logic.order
    return is_declared and all([sign in (ONE, ZERO) for sign in signs])


def is_true_chart(logic, text):
    """Whether the lines of bits and timers are those of the run that a chart tells."""
    names = list(_read_rows(logic, text))
    return chart(logic, run_of_chart(logic, text), names) == text
