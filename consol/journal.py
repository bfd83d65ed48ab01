"""The journal: a text of lines, which may have been cut off anywhere."""

from consol.errors import InvalidLine


def lines_of(text):
    """Returns the complete lines of a text."""
    return complete_part(text).split("\n")[:-1]


def text_of(lines):
    """Returns the text of a list of lines."""
    if not all(is_line(line) for line in lines):
        raise InvalidLine()
    return "".join(f"{line}\n" for line in lines)


def complete_part(text):
    """Returns a text up to its last newline."""
    if not all(is_line(line) for line in text.split("\n")):
        raise InvalidLine()
    return text[:text.rfind("\n") + 1]


def is_line(text):
    """Tells whether a text has characters of lines alone."""
    return all(" " <= letter <= "~" for letter in text)
