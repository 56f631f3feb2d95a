"""Texts read token by token, from left to right."""

from boundstead.errors import BadSyntax

MOST_DIGITS = 12


def run_end(text, at, first, last):
    """The position behind the characters from first to last that stand together at the position."""
    while at < len(text) and first <= text[at] <= last:
        at = at + 1
    return at


def token_end(text, at):
    """The position behind the token that begins at the position, where no space stands.

    What begins no token, or is none that a statement has, is a token of its own here: as it
    goes on no statement, it is found to be wrong when its turn comes.
    """
    if "a" <= text[at] <= "z":
        return run_end(text, at, "a", "z")
    digits = at + 1 if text[at] == "-" else at
    end = run_end(text, digits, "0", "9")
    if end > digits:
        return end
    return at + 2 if text[at:at + 2] == ".." else at + 1


def is_number(token):
    """Whether the token is a number: up to twelve digits without needless noughts, with a minus sign or not."""
    digits = token.removeprefix("-")
    if not digits.isascii() or not digits.isdigit() or len(digits) > MOST_DIGITS:
        return False
    return token == "0" or digits[0] != "0"


class Reader:
    """A text and the position up to which it has been read."""

    def __init__(self, text):
        self._text = text
        self._at = run_end(text, 0, " ", " ")

    def due(self):
        """The next token; the empty string at the end of the text."""
        if self._at == len(self._text):
            return ""
        return self._text[self._at:token_end(self._text, self._at)]

    def take(self, tokens):
        """Read the next token, which must be one of these; the token."""
        token = self.due()
        if token not in tokens:
            raise BadSyntax(self._at)
        self._pass(token)
        return token

    def take_number(self):
        """Read the next token, which must be a number; the integer."""
        token = self.due()
        if not is_number(token):
            raise BadSyntax(self._at)
        self._pass(token)
        return int(token)

    def finish(self):
        """BadSyntax unless the text has been read to its end."""
        if self._at < len(self._text):
            raise BadSyntax(self._at)

    def _pass(self, token):
        """Go on behind the token and the spaces after it."""
        self._at = run_end(self._text, self._at + len(token), " ", " ")
