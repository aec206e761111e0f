"""The tokens of a text."""

from windowada.errors import ScanError, TooLarge

LONGEST_TEXT = 4000
LONGEST_NAME = 30
LONGEST_NUMBER = 10
GREATEST_NUMBER = 2147483647

LETTERS = "abcdefghijklmnopqrstuvwxyz"
DIGITS = "0123456789"
NAME_CHARACTERS = "abcdefghijklmnopqrstuvwxyz0123456789_"

RESERVED = (
    "abs", "and", "array", "begin", "case", "constant", "declare", "else", "elsif", "end", "exception",
    "exit", "false", "for", "function", "get", "if", "in", "is", "loop", "mod", "not", "null", "of", "or",
    "others", "out", "procedure", "put", "raise", "range", "rem", "return", "reverse", "subtype", "then",
    "true", "type", "when", "while", "xor",
)
LONG_SIGNS = (":=", "=>", "..", "/=", "<=", ">=")
SHORT_SIGNS = "(),:;'|+-*/=<>"


def scan(text):
    """Returns the tokens of a text, tuples (kind, value, line, column), as a list."""
    if len(text) > LONGEST_TEXT:
        raise TooLarge("the text is too long", (1, 1))
    tokens = []
    # No token goes over a line feed, so each line can be scanned by itself.
    rows = text.split("\n")
    for line, row in enumerate(rows, start=1):
        tokens.extend(_scan_row(row, line))
    tokens.append(("end", "", len(rows), len(rows[-1]) + 1))
    return tokens


def _scan_row(row, line):
    """Returns the tokens of one line."""
    tokens = []
    at = 0
    while at < len(row) and row[at:at + 2] != "--":
        if row[at] == " ":
            at += 1
        else:
            kind, value, length = _token_at(row, at, (line, at + 1))
            tokens.append((kind, value, line, at + 1))
            at += length
    return tokens


def _token_at(row, at, place):
    """Returns the kind, the value and the length of the token that begins at an index of a line."""
    if row[at] in LETTERS:
        return _word_at(row, at, place)
    if row[at] in DIGITS:
        return _number_at(row, at, place)
    if row[at:at + 2] in LONG_SIGNS:
        return "sign", row[at:at + 2], 2
    if row[at] in SHORT_SIGNS:
        return "sign", row[at], 1
    raise ScanError("no token begins here", place)


def _word_at(row, at, place):
    """Returns the kind, the value and the length of a word or name."""
    word = _characters_at(row, at, NAME_CHARACTERS)
    if word in RESERVED:
        return "word", word, len(word)
    # Two underscores side by side, and one at the end, leave an empty part.
    if len(word) > LONGEST_NAME or "" in word.split("_"):
        raise ScanError("this is no name", place)
    return "name", word, len(word)


def _number_at(row, at, place):
    """Returns the kind, the value and the length of a number."""
    digits = _characters_at(row, at, DIGITS)
    behind = row[at + len(digits):at + len(digits) + 1]
    if behind != "" and behind in NAME_CHARACTERS:
        raise ScanError("a number ends before a letter or an underscore", place)
    if len(digits) > LONGEST_NUMBER or int(digits) > GREATEST_NUMBER:
        raise ScanError("the number is too large", place)
    return "number", int(digits), len(digits)


def _characters_at(row, at, allowed):
    """Returns as many characters from an index on as are allowed ones."""
    end = at
    while end < len(row) and row[end] in allowed:
        end += 1
    return row[at:end]
