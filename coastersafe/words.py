"""The lines and words of texts: numbers and names."""

from coastersafe.errors import InvalidText

DIGITS = "0123456789"
LETTERS = "abcdefghijklmnopqrstuvwxyz"
MOST_DIGITS = 9
MOST_SIGNS = 12
RESERVED = ("input", "bit", "timer", "counts", "and", "or", "not")


def read_lines(lines, first, read_line):
    """What a function reads from each of some lines, the first of which has a number; it gives None for a wrong one."""
    found = []
    for number, line in enumerate(lines, start=first):
        told = read_line(line)
        if told is None:
            raise InvalidText(number)
        found.append(told)
    return found


def read_number(word):
    """The number that a word of decimal digits without leading zeros tells, or None."""
    if not 1 <= len(word) <= MOST_DIGITS:
        return None
    if not all([sign in DIGITS for sign in word]):
        return None
    if word[0] == "0" and word != "0":
        return None
    return int(word)


def read_numbers(words):
    """The numbers that words tell, or None if one of them tells none."""
    numbers = [read_number(word) for word in words]
    if None in numbers:
        return None
    return numbers


def is_name(word):
    """Whether a word may be the name of an input, a bit or a timer."""
    if not 1 <= len(word) <= MOST_SIGNS or word in RESERVED:
        return False
    if word[0] not in LETTERS:
        return False
    return all([sign in LETTERS or sign in DIGITS for sign in word])
