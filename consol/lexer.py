"""The tokens of a line of a bond's text."""

from consol.errors import TextError
from consol.ratios import DIGITS

LETTERS = "abcdefghijklmnopqrstuvwxyz"
LONG_SIGNS = ("<=", ">=")
SHORT_SIGNS = "<>=+-*$(),"
MOST_LETTERS = 12
MOST_DIGITS = 12


def tokens(line, number):
    """Returns the list of the tokens (kind, text, column) of a line with this number."""
    found = []
    at = 0
    while at < len(line):
        if line[at] == " ":
            at = at + 1
            continue
        kind = _kind_of(line[at])
        text = line[at:_end_of(kind, line, at)]
        fault = _fault_of(kind, text)
        if fault != "":
            raise TextError(number, at + 1, fault)
        found.append((kind, text, at + 1))
        at = at + len(text)
    return found


def _kind_of(character):
    """Returns the kind of the tokens that begin so, or "" if none does."""
    if character in LETTERS:
        return "word"
    if character in DIGITS:
        return "number"
    return "sign" if character in SHORT_SIGNS else ""


def _end_of(kind, line, at):
    """Returns the place behind the token that begins at a place."""
    if kind == "word":
        return _end_of_row(LETTERS, line, at)
    if kind == "number":
        return _end_of_number(line, at)
    return at + 2 if line[at:at + 2] in LONG_SIGNS else at + 1


def _end_of_row(characters, line, at):
    while at < len(line) and line[at] in characters:
        at = at + 1
    return at


def _end_of_number(line, at):
    end = _end_of_row(DIGITS, line, at)
    if line[end:end + 1] != "/":
        return end
    behind = _end_of_row(DIGITS, line, end + 1)
    # A slash without a digit behind it does not belong to the number.
    return behind if behind > end + 1 else end


def _fault_of(kind, text):
    """Returns the reason why a token is none, or "" if it is one."""
    if kind == "":
        return "character"
    if kind == "word" and len(text) > MOST_LETTERS:
        return "word"
    if kind == "number" and not _is_well_written(text):
        return "number"
    return ""


def _is_well_written(text):
    rows = text.split("/")
    if rows[1:] == ["0"]:
        return False
    return all(len(row) <= MOST_DIGITS and (row == "0" or row[0] != "0") for row in rows)
