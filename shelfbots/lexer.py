"""Cuts the text of a plan into tokens (point 2 of the document)."""

from shelfbots.errors import SyntaxFault

LETTERS = "abcdefghijklmnopqrstuvwxyz"
DIGITS = "0123456789"
SIGNS = (";", ":", "{", "}")
JUMPS = ("goto", "empty", "held")
# The number of a command in a list of bytes is its place here.
COMMANDS = ("left", "right", "pick", "put", "wait", "goto", "empty", "held")
KEYWORDS = ("shelf", "robot", "left", "right", "pick", "put", "wait", "goto", "empty", "held")
LONGEST_NAME = 8
LONGEST_NUMBER = 2

# No keyword and no sign is spelled like one of these kinds of tokens.
NAME = "name"
NUMBER = "number"
END = "end"


class Token:
    """A token; the kind of a keyword or a sign is its text."""

    def __init__(self, kind, text, line, column):
        self.kind = kind
        self.text = text
        self.line = line
        self.column = column


def read_tokens(text):
    """Returns the list of the tokens of a text, with an END token behind them."""
    if not isinstance(text, str):
        raise SyntaxFault(0, 0)
    tokens = []
    rows = text.split("\n")
    for line, row in enumerate(rows):
        tokens.extend(read_row(row, line))
    # A plan that ends too early is reported one line below its last one.
    tokens.append(Token(END, "", len(rows), 0))
    return tokens


def read_row(row, line):
    """Returns the list of the tokens of one line."""
    tokens = []
    column = 0
    while column < len(row):
        if row[column] == " ":
            column += 1
        else:
            text = longest_text(row, column)
            tokens.append(Token(kind_of(text, line, column), text, line, column))
            column += len(text)
    return tokens


def longest_text(row, column):
    """Returns the word, the digits or the single character at a column."""
    for characters in (LETTERS, DIGITS):
        end = column
        while end < len(row) and row[end] in characters:
            end += 1
        if end > column:
            return row[column:end]
    return row[column]


def kind_of(text, line, column):
    """Returns the kind of the token with this text."""
    if text in KEYWORDS or text in SIGNS:
        return text
    if text[0] in LETTERS and len(text) <= LONGEST_NAME:
        return NAME
    if text[0] in DIGITS and is_valid_number(text):
        return NUMBER
    raise SyntaxFault(line, column)


def is_valid_number(digits):
    """Tells whether some digits are few enough and have no leading zero."""
    return len(digits) <= LONGEST_NUMBER and (digits == "0" or digits[0] != "0")
