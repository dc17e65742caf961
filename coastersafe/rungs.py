"""Logics that are written as rungs: contacts and coils."""

from coastersafe.conditions import MOST_DEPTH, joined, named, negated
from coastersafe.errors import NotFitting
from coastersafe.logic import declared_lines, read_program

MOST_BRACKETS = 30
KINDS_OF_COILS = {"=": "bit", "set": "bit", "reset": "bit", "time": "timer"}


class RungReader:
    """What was read of the contacts of a rung so far.

    A part is a pair of a condition and its depth. Of the bracket that is open, `_branches` is the part for the branches
    that are done, and `_row` that for the contacts of the branch now, each of them None if there are none.
    """

    def __init__(self, declared):
        self._declared = declared
        self._outer = []
        self._branches = None
        self._row = None

    def take(self, word):
        """Reads one more word; False if it cannot stand here, or if conditions or brackets become too deep."""
        if word == "[":
            return self._begin_bracket()
        if word == "|":
            return len(self._outer) > 0 and self._end_branch()
        if word == "]":
            return self._branches is not None and self._end_bracket()
        contact = self._contact(word)
        return contact is not None and self._add(contact)

    def _begin_bracket(self):
        if len(self._outer) == MOST_BRACKETS:
            return False
        self._outer.append((self._branches, self._row))
        self._branches = None
        self._row = None
        return True

    def _end_branch(self):
        if self._row is None:
            return False
        self._branches = _behind("or", self._branches, self._row)
        self._row = None
        return self._branches[1] <= MOST_DEPTH

    def _end_bracket(self):
        if not self._end_branch():
            return False
        bracket = self._branches
        self._branches, self._row = self._outer.pop()
        return self._add(bracket)

    def _add(self, part):
        self._row = _behind("and", self._row, part)
        return self._row[1] <= MOST_DEPTH

    def _contact(self, word):
        if word.startswith("-"):
            if self._declared.kind(word[1:]) is None:
                return None
            return negated(named(word[1:]))
        if self._declared.kind(word) is None:
            return None
        return named(word)

    def result(self):
        """The part for all contacts, or None if they have no end here."""
        if self._outer:
            return None
        return self._row


def _behind(kind, left, right):
    """The part that joins what was read before, which may be None, and one more part."""
    if left is None:
        return right
    return joined(kind, left, right)


def parse_rungs(text):
    """The logic that a text in rungs tells."""
    return read_program(text, _read_rung)


def _read_rung(declared, words):
    """The statement that a rung means, or None if the words are no rung."""
    if words.count("=") != 1:
        return None
    at = words.index("=")
    reader = RungReader(declared)
    for word in words[:at]:
        if not reader.take(word):
            return None
    part = reader.result()
    if part is None:
        return None
    return _stated(declared, words[at:], part)


def _stated(declared, coil, part):
    """The statement for a part that lets through and the words of a coil, from `=` on, or None."""
    if len(coil) not in (2, 3):
        return None
    word = coil[-2]
    name = coil[-1]
    if word not in KINDS_OF_COILS or declared.kind(name) != KINDS_OF_COILS[word]:
        return None
    if word == "set":
        part = joined("or", named(name), part)
    elif word == "reset":
        part = joined("and", named(name), negated(part))
    if part[1] > MOST_DEPTH:
        return None
    return ("count" if word == "time" else "set", name, part[0])


def format_rungs(logic):
    """The text in rungs of a logic."""
    lines = declared_lines(logic)
    for kind, name, condition in logic.statements:
        coil = name if kind == "set" else "time " + name
        lines.append(" ".join(_row_words(condition)) + " = " + coil)
    return "\n".join(lines)


def _row_words(condition):
    """The words of the contacts and brackets, one after the other, for a condition."""
    kind = condition[0]
    if kind == "name":
        return [condition[1]]
    if kind == "not" and condition[1][0] == "name":
        return ["-" + condition[1][1]]
    if kind == "and":
        return _row_words(condition[1]) + _row_words(condition[2])
    if kind == "or":
        return ["["] + _branch_words(condition) + ["]"]
    raise NotFitting("such a condition is no rung")


def _branch_words(condition):
    """The words of the branches for a condition, without the bracket around them."""
    if condition[0] != "or":
        return _row_words(condition)
    return _branch_words(condition[1]) + ["|"] + _row_words(condition[2])
