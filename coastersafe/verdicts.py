"""Written verdicts of the check of a logic."""

from coastersafe.checker import breaks, is_invariant
from coastersafe.errors import InvalidText
from coastersafe.words import read_lines, read_numbers

# For the word of each verdict the one that begins the lines behind it.
WORDS_OF_ROWS = {"always": "memory", "broken": "scan"}


def format_verdict(verdict):
    """The text of a verdict."""
    word, rows = verdict
    lines = [" ".join([WORDS_OF_ROWS[word]] + [str(number) for number in row]) for row in rows]
    return "\n".join([word] + lines)


def parse_verdict(logic, text):
    """The verdict that a text tells."""
    lines = text.split("\n")
    word = lines[0]
    if word not in WORDS_OF_ROWS:
        raise InvalidText(1)
    return (word, read_lines(lines[1:], 2, lambda line: _read_row(logic, word, line)))


def _read_row(logic, word, line):
    """The memory or the inputs that a line behind the word of a verdict tells, or None."""
    words = line.split(" ")
    numbers = read_numbers(words[1:])
    if words[0] != WORDS_OF_ROWS[word] or numbers is None:
        return None
    if word == "always":
        return tuple(numbers) if len(numbers) == len(logic.order) else None
    if len(numbers) != len(logic.inputs) or not all([number in (0, 1) for number in numbers]):
        return None
    return tuple(numbers)


def accepts(logic, condition, text):
    """Whether a written verdict is true of a logic and a condition."""
    word, rows = parse_verdict(logic, text)
    if word == "always":
        return is_invariant(logic, condition, rows)
    return breaks(logic, condition, rows)
