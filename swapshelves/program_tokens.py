"""The tokens of the text of a program, and where they stand."""

from swapshelves.errors import ProgramSyntaxError

LETTERS = "abcdefghijklmnopqrstuvwxyz"
DIGITS = "0123456789"
SIGNS = "{};:,"
MOST_LETTERS = 10
MOST_DIGITS = 19


def tokens_of(source):
    """Return the list of all tokens, tuples (text, row, column).

    The last one is no token of the program: it has an empty text, and stands
    where a program is refused that ends too early.
    """
    rows = source.split("\n")
    found = []
    for row, line in enumerate(rows):
        found.extend(tokens_of_line(row, line))
    found.append(("", len(rows), 0))
    return found


def tokens_of_line(row, line):
    """Return the list of the tokens of a line."""
    found = []
    column = 0
    while column < len(line) and line[column] != "#":
        if line[column] == " ":
            column += 1
        else:
            text = token_at(line, column)
            if not is_token(text):
                raise ProgramSyntaxError(row, column)
            found.append((text, row, column))
            column += len(text)
    return found


def token_at(line, column):
    """Return as many letters or digits as there are from a column on, or one character."""
    for alphabet in (LETTERS, DIGITS):
        end = column
        while end < len(line) and line[end] in alphabet:
            end += 1
        if end > column:
            return line[column:end]
    return line[column]


def is_token(text):
    """Tell whether letters, digits or another character are a token."""
    if text[0] in LETTERS:
        return len(text) <= MOST_LETTERS
    if text[0] in DIGITS:
        return len(text) <= MOST_DIGITS and (text == "0" or text[0] != "0")
    return text in SIGNS


def is_word(text):
    """Tell whether the text of a token is a word."""
    return text != "" and text[0] in LETTERS


def is_number(text):
    """Tell whether the text of a token is a number."""
    return text != "" and text[0] in DIGITS
