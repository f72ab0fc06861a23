"""The signs of which the text of a grammar consists."""

from surelyread.errors import Fault

# Written out, since isalpha and isdigit also take letters and digits of other scripts.
LETTERS = "abcdefghijklmnopqrstuvwxyzABCDEFGHIJKLMNOPQRSTUVWXYZ"
DIGITS = "0123456789"
IN_WORDS = "_0123456789abcdefghijklmnopqrstuvwxyzABCDEFGHIJKLMNOPQRSTUVWXYZ"
SYMBOLS = ",;(){}=|*+?"
LONGEST_WORD = 20
LONGEST_NUMBER = 9


def split(text):
    """The list of the signs: tuples (kind, value, line, column), at last the end."""
    positions = find_positions(text)
    signs = []
    at = 0
    while at < len(text):
        if text[at] in " \n":
            at += 1
        else:
            kind, value, end = sign_at(text, at, positions)
            line, column = positions[at]
            signs.append((kind, value, line, column))
            at = end
    line, column = positions[len(text)]
    signs.append(("end", "", line, column))
    return signs


def find_positions(text):
    """The line and the column of each character, and of the end."""
    positions = []
    line = 1
    column = 1
    for character in text:
        positions.append((line, column))
        column += 1
        if character == "\n":
            line += 1
            column = 1
    positions.append((line, column))
    return positions


def sign_at(text, at, positions):
    """The kind and the value of the sign that begins at an index, and the index behind it."""
    character = text[at]
    if character in LETTERS:
        end = run_end(text, at, IN_WORDS, LONGEST_WORD, positions, "name too long")
        return "word", text[at:end], end
    if character in DIGITS:
        end = run_end(text, at, DIGITS, LONGEST_NUMBER, positions, "number too long")
        return "number", int(text[at:end]), end
    if character == '"':
        end = quoted_end(text, at, positions)
        return "quoted", text[at + 1:end - 1].replace('""', '"'), end
    if character in SYMBOLS:
        return "symbol", character, at + 1
    line, column = positions[at]
    raise Fault(line, column, "unexpected character")


def run_end(text, at, characters, longest, positions, reason):
    """The index behind the longest run of the characters, which must not be too long."""
    end = at
    while end < len(text) and text[end] in characters:
        if end == at + longest:
            line, column = positions[end]
            raise Fault(line, column, reason)
        end += 1
    return end


def quoted_end(text, at, positions):
    """The index behind the quoted text that begins at an index."""
    end = at + 1
    while end < len(text):
        if text[end] != '"':
            end += 1
        elif text[end:end + 2] == '""':
            end += 2
        else:
            return end + 1
    line, column = positions[len(text)]
    raise Fault(line, column, "quoted text without an end")
