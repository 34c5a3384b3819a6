"""Statements as texts: written, and read back."""

from showtree.errors import Unread
from showtree.statements import DEEPEST, is_name

SIGNS = {"and": "&", "or": "|", "then": ">"}
WORDS = {" & ": "and", " | ": "or", " > ": "then"}
JOINT_LENGTH = 3


def written(statement):
    """The text of a statement."""
    word = statement[0]
    if word == "name":
        return statement[1]
    if word == "false":
        return "#"
    return f"({written(statement[1])} {SIGNS[word]} {written(statement[2])})"


def read(text):
    """The statement of a text that is written just so; any other text is refused with Unread."""
    statement, end = read_at(text, 0, DEEPEST)
    if end < len(text):
        raise Unread(f"a statement ends ahead of sign {end}, but the text goes on")
    return statement


def read_at(text, start, room):
    """The statement whose text begins at start, no more than room deep, and where its text ends."""
    # Without this limit a long row of brackets would go deeper than Python's calls may.
    if room == 0:
        raise Unread(f"a statement at sign {start} would be too deep")
    sign = text[start:start + 1]
    if sign == "(":
        return read_joined(text, start, room)
    if sign == "#":
        return ("false",), start + 1
    return read_name(text, start)


def read_joined(text, start, room):
    """The and, or or then whose bracket stands at start, and where its text ends."""
    first, joint = read_at(text, start + 1, room - 1)
    word = WORDS.get(text[joint:joint + JOINT_LENGTH])
    if word is None:
        raise Unread(f"no operator between single blanks at sign {joint}")
    second, end = read_at(text, joint + JOINT_LENGTH, room - 1)
    if text[end:end + 1] != ")":
        raise Unread(f"no closing bracket at sign {end}")
    return (word, first, second), end + 1


def read_name(text, start):
    """The statement of the name that begins at start, and where it ends."""
    end = start
    while is_name(text[end:end + 1]):
        end += 1
    if not is_name(text[start:end]):
        raise Unread(f"no statement at sign {start}")
    return ("name", text[start:end]), end
