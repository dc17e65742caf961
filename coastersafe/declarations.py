"""The declarations of a logic, as they are read line by line."""

from coastersafe.words import is_name, read_number

DECLARING = ("input", "bit", "timer")
MOST_INPUTS = 60
MOST_BITS = 200
MOST_TIMERS = 40
MOST_LIMIT = 999


class Declarations:
    """The inputs, bits and timers that were declared so far, and the kind of each name."""

    def __init__(self):
        self.inputs = []
        self.bits = []
        self.timers = []
        self.order = []
        self._kinds = {}

    def kind(self, name):
        """`input`, `bit` or `timer`, or None for a name that is not declared."""
        return self._kinds.get(name)

    def declare(self, words):
        """Takes the words of a line; False if they are no declaration that may come next."""
        if len(words) < 2 or not is_name(words[1]) or words[1] in self._kinds:
            return False
        if not self._take(words):
            return False
        self._kinds[words[1]] = words[0]
        return True

    def _take(self, words):
        if words[0] == "input":
            return self._take_input(words)
        if words[0] == "bit":
            return self._take_bit(words)
        return self._take_timer(words)

    def _take_input(self, words):
        if len(words) != 2 or len(self.inputs) == MOST_INPUTS:
            return False
        self.inputs.append(words[1])
        return True

    def _take_bit(self, words):
        if len(words) != 3 or words[2] not in ("0", "1") or len(self.bits) == MOST_BITS:
            return False
        self.bits.append((words[1], int(words[2])))
        self.order.append(words[1])
        return True

    def _take_timer(self, words):
        if len(words) != 3 or len(self.timers) == MOST_TIMERS:
            return False
        limit = read_number(words[2])
        if limit is None or not 1 <= limit <= MOST_LIMIT:
            return False
        self.timers.append((words[1], limit))
        self.order.append(words[1])
        return True
