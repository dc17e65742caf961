"""Conditions: how they are read from words, written and evaluated."""

from coastersafe.words import is_name

MOST_DEPTH = 60
STRENGTHS = {"(": 0, "or": 1, "and": 2, "not": 3}


class ConditionReader:
    """What was read of a condition so far: the parts that are done, and the words that wait for parts.

    A part is a pair of a condition and its depth. Brackets may nest deeper than calls may, so the reader keeps its
    own stacks.
    """

    def __init__(self):
        self._parts = []
        self._waiting = []
        self._needs_part = True

    def take(self, word):
        """Reads one more word; False if it cannot stand here."""
        if self._needs_part:
            return self._take_begin(word)
        if word == ")":
            return self._close()
        if word not in ("and", "or"):
            return False
        self._needs_part = True
        self._join(STRENGTHS[word])
        self._waiting.append(word)
        return True

    def _take_begin(self, word):
        if word in ("not", "("):
            self._waiting.append(word)
            return True
        self._needs_part = False
        if word in ("0", "1"):
            self._parts.append((("value", int(word)), 1))
            return True
        if not is_name(word):
            return False
        self._parts.append(named(word))
        return True

    def _close(self):
        self._join(STRENGTHS["or"])
        if not self._waiting:
            return False
        self._waiting.pop()
        return True

    def _join(self, strength):
        """Joins parts by the waiting words that bind at least so strongly."""
        while self._waiting and STRENGTHS[self._waiting[-1]] >= strength:
            word = self._waiting.pop()
            right = self._parts.pop()
            if word == "not":
                self._parts.append(negated(right))
            else:
                self._parts.append(joined(word, self._parts.pop(), right))

    def result(self):
        """The part that is the whole condition, or None if it has no end here."""
        if self._needs_part:
            return None
        self._join(STRENGTHS["or"])
        if self._waiting:
            return None
        return self._parts[0]


def named(name):
    """The part that is a name."""
    return (("name", name), 1)


def negated(part):
    """The part that is "not" of another one."""
    return (("not", part[0]), part[1] + 1)


def joined(kind, left, right):
    """The part that is "and" or "or" of two others."""
    return ((kind, left[0], right[0]), max(left[1], right[1]) + 1)


def read_part(words):
    """The part that a list of words tells, however deep it is, or None if they tell none."""
    reader = ConditionReader()
    for word in words:
        if not reader.take(word):
            return None
    return reader.result()


def read_condition(words):
    """The condition that a list of words tells, or None if they tell none, or one that is too deep."""
    part = read_part(words)
    if part is None or part[1] > MOST_DEPTH:
        return None
    return part[0]


def written_condition(condition):
    """The text of a condition, with brackets just where they are needed."""
    kind = condition[0]
    if kind == "value":
        return str(condition[1])
    if kind == "name":
        return condition[1]
    if kind == "not":
        return "not " + _written_part(condition[1], STRENGTHS["not"])
    strength = STRENGTHS[kind]
    # Equal words are read from the left, so only a right part needs brackets around the same word.
    return _written_part(condition[1], strength) + f" {kind} " + _written_part(condition[2], strength + 1)


def _written_part(condition, strength):
    text = written_condition(condition)
    if condition[0] in STRENGTHS and STRENGTHS[condition[0]] < strength:
        return f"( {text} )"
    return text


def names_of(condition):
    """The names in a condition, from the left."""
    if condition[0] == "name":
        return [condition[1]]
    if condition[0] == "value":
        return []
    names = []
    for part in condition[1:]:
        names.extend(names_of(part))
    return names


def evaluated(condition, values, limits):
    """The value of a condition, by the values of names and the limits of those that are timers."""
    kind = condition[0]
    if kind == "value":
        return condition[1]
    if kind == "name":
        return _value_of_name(condition[1], values, limits)
    first = evaluated(condition[1], values, limits)
    if kind == "not":
        return 1 - first
    if kind == "and":
        return evaluated(condition[2], values, limits) if first == 1 else 0
    return 1 if first == 1 else evaluated(condition[2], values, limits)


def _value_of_name(name, values, limits):
    if name in limits:
        return 1 if values[name] == limits[name] else 0
    return values[name]
