"""A cursor over the tokens of one line, which raises the errors of reading."""

from consol.errors import TextError
from consol.lexer import tokens
from consol.ratios import fraction

KEY_WORDS = (
    "bond", "by", "units", "face", "from", "to", "every", "months", "count", "adjust", "record", "rank", "let",
    "coupon", "promise", "must", "grace", "cross", "call", "at", "percent", "if", "then", "else", "or", "and", "not",
    "true", "false", "fact", "rate", "min", "max", "ever", "always", "before",
)
MOST_OPEN = 20


class Cursor:
    """Reads the tokens of a line from left to right.

    It knows which lets are declared above the line, and how many parentheses,
    `not` and `if` are open.
    """

    def __init__(self, line, number, lets):
        self.tokens = tokens(line, number)
        self.number = number
        self.end = len(line) + 1
        self.at = 0
        self.depth = 0
        self.lets = lets

    def ahead(self):
        """Returns the text of the token that is due, or "" at the end of the line."""
        return self.tokens[self.at][1] if self.at < len(self.tokens) else ""

    def kind_ahead(self):
        """Returns the kind of the token that is due, or "" at the end of the line."""
        return self.tokens[self.at][0] if self.at < len(self.tokens) else ""

    def column_ahead(self):
        """Returns the column of the token that is due, or the one behind the line."""
        return self.tokens[self.at][2] if self.at < len(self.tokens) else self.end

    def refuse(self):
        """Raises the error that something else is due here."""
        raise TextError(self.number, self.column_ahead(), "expected")

    def blame(self, reason):
        """Raises an error at the token that was read last."""
        raise TextError(self.number, self.tokens[self.at - 1][2], reason)

    def take(self, kind):
        """Reads a token of a kind, and returns its text."""
        if self.kind_ahead() != kind:
            self.refuse()
        self.at = self.at + 1
        return self.tokens[self.at - 1][1]

    def skip(self, text):
        """Reads the token if it has this text, and tells whether it has."""
        if self.ahead() != text:
            return False
        self.at = self.at + 1
        return True

    def expect(self, text):
        """Reads a token that must have this text."""
        if not self.skip(text):
            self.refuse()

    def expect_end(self):
        """Checks that the whole line has been read."""
        if self.at < len(self.tokens):
            self.refuse()

    def begin(self, text):
        """Reads a token that opens something."""
        self.expect(text)
        self.depth = self.depth + 1
        if self.depth > MOST_OPEN:
            self.blame("deep")

    def finish(self):
        """Closes what was opened last."""
        self.depth = self.depth - 1

    def take_name(self):
        """Reads a name."""
        name = self.take("word")
        if name in KEY_WORDS:
            self.blame("expected")
        return name

    def take_new_name(self, taken):
        """Reads a name that is none of those that are taken."""
        name = self.take_name()
        if name in taken:
            self.blame("twice")
        return name

    def take_let(self):
        """Reads the name of a let that is declared above."""
        name = self.take_name()
        if name not in self.lets:
            self.blame("unknown")
        return name

    def take_choice(self, words):
        """Reads one of several words."""
        word = self.take("word")
        if word not in words:
            self.blame("choice")
        return word

    def take_integer(self, least, most):
        """Reads an integer of a range."""
        text = self.take("number")
        if "/" in text:
            self.blame("expected")
        if int(text) < least or int(text) > most:
            self.blame("range")
        return int(text)

    def take_fraction(self):
        """Reads a number, and returns the fraction."""
        numbers = [int(row) for row in self.take("number").split("/")]
        return fraction(*numbers)
