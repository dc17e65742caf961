"""Tables of interlocks: outputs that are asked for and permitted, and pairs of outputs that are apart."""

from coastersafe.conditions import MOST_DEPTH, joined, named, names_of, negated, read_part
from coastersafe.declarations import Declarations
from coastersafe.errors import InvalidText, NotFitting
from coastersafe.logic import Logic
from coastersafe.words import is_name

KINDS_OF_OUTPUTS = ("output", "latch")
MOST_OUTPUTS = 40
MOST_PAIRS = 200


class Table:
    """What was read of a table so far; a part is a pair of a condition and its depth."""

    def __init__(self, outputs):
        """Takes a dict whose keys are the names of all outputs, also of those in lines that are read later."""
        self._outputs = dict(outputs)
        self._declared = Declarations()
        self._asked = []
        self._apart = {}
        self.pairs = []

    def take_line(self, number, words):
        """Reads the words of one more line; False if it is wrong."""
        if words[0] == "input":
            return not self._asked and not self.pairs and self._declared.declare(words)
        if words[0] in KINDS_OF_OUTPUTS:
            return not self.pairs and self._take_output(number, words)
        return words[0] == "apart" and self._take_pair(words[1:])

    def _take_output(self, number, words):
        part = _read_output(words)
        if part is None or part[1] > MOST_DEPTH or len(self._asked) == MOST_OUTPUTS:
            return False
        if not all([self._is_declared(name) for name in names_of(part[0])]):
            return False
        if not self._declared.declare(["bit", words[1], "0"]):
            return False
        self._asked.append((number, words[1], part))
        return True

    def _is_declared(self, name):
        return name in self._outputs or self._declared.kind(name) is not None

    def _take_pair(self, names):
        if len(names) != 2 or len(self.pairs) == MOST_PAIRS:
            return False
        first, second = names
        if first == second or first not in self._outputs or second not in self._outputs:
            return False
        if (first, second) in self._apart:
            return False
        self._apart[(first, second)] = True
        self._apart[(second, first)] = True
        self.pairs.append((first, second))
        return True

    def logic(self):
        """The logic that the table means."""
        statements = []
        for number, name, part in self._asked:
            for kind, other, condition in statements:
                if (other, name) in self._apart:
                    part = joined("and", part, negated(named(other)))
            if part[1] > MOST_DEPTH:
                raise InvalidText(number)
            statements.append(("set", name, part[0]))
        return Logic(self._declared.inputs, self._declared.bits, [], statements, self._declared.order)


def _read_output(words):
    """The part that joins what is asked and what permits, or None if the words have not the form of an output."""
    if len(words) < 3 or words[0] not in KINDS_OF_OUTPUTS or not is_name(words[1]) or words[2] != "ask":
        return None
    at = _place_of_permit(words)
    if at is None:
        return None
    asked = read_part(words[3:at])
    permitted = read_part(words[at + 1:])
    if asked is None or permitted is None:
        return None
    if words[0] == "latch":
        asked = joined("or", asked, named(words[1]))
    return joined("and", asked, permitted)


def _place_of_permit(words):
    """The place of the word between both conditions, or None."""
    for at in range(4, len(words)):
        # Where a condition needs a name, `permit` is one.
        if words[at] == "permit" and words[at - 1] not in ("not", "(", "and", "or"):
            return at
    return None


def _read_table(text):
    lines = [line.split(" ") for line in text.split("\n")]
    table = Table({words[1]: True for words in lines if _read_output(words) is not None})
    for number, words in enumerate(lines, start=1):
        if not table.take_line(number, words):
            raise InvalidText(number)
    return table


def parse_table(text):
    """The logic that a table means."""
    return _read_table(text).logic()


def apart_condition(text):
    """The condition that some outputs of a table that are apart are both 1."""
    table = _read_table(text)
    # Pairs may make a condition too deep, which is an error of the text as well.
    table.logic()
    if not table.pairs:
        raise NotFitting("no outputs are apart")
    condition = None
    for first, second in table.pairs:
        both = ("and", ("name", first), ("name", second))
        condition = both if condition is None else ("or", condition, both)
    return condition
