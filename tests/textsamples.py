"""What several tests of texts need: the line of an error, and lines that are wrong."""

from coastersafe.errors import InvalidText

# Words that are no numbers of texts.
NO_NUMBERS = ("", "00", "01", "+1", "-1", "-0", "1.0", "1e0", "0x1", "one", "a", "1234567890", "1_0", "1,")


def wrong_line(read, *arguments):
    """The line of the error that reading raises, or None."""
    try:
        read(*arguments)
    except InvalidText as error:
        return error.line
    return None


def with_word(line, at, word):
    """The line with another word at a place."""
    words = line.split(" ")
    return " ".join(words[:at] + [word] + words[at + 1:])


def spaced_wrongly(line):
    """The line with other spaces, and with words more and less."""
    words = line.split(" ")
    yield from (" " + line, line + " ", line.replace(" ", "  ", 1), line.replace(" ", "\t", 1), line + " 0", line + " a")
    yield from (" ".join(words[:-1]), " ".join(words[1:]), line.upper(), line.capitalize())
