"""Reading the tokens of a text, one after the other."""


class Reader:
    """The tokens of a text that the grammar accepts, and how many of them have been read.

    A name never has the value of a word or sign, so the value alone tells what a token is.
    """

    def __init__(self, tokens):
        self._tokens = tokens
        self._at = 0

    def peek(self):
        """Returns the value of the next token."""
        return self._tokens[self._at][1]

    def peek_kind(self):
        """Returns the kind of the next token."""
        return self._tokens[self._at][0]

    def here(self):
        """Returns the place of the next token."""
        return self._tokens[self._at][2:]

    def take(self):
        """Goes on behind the next token and returns its value."""
        value = self.peek()
        self._at += 1
        return value

    def takes(self, value):
        """Goes on behind the next token if it has the value; returns True if it has, otherwise False."""
        if self.peek() != value:
            return False
        self._at += 1
        return True

    def skip(self, many):
        """Goes on behind a number of tokens that the grammar asks for."""
        self._at += many
