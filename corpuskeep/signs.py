"""Reads a text of rules as a list of signs."""

BLANKS = " \n"
SYMBOLS = ",;:"
NAME_LIMIT = 20


def is_letter(char):
    return "a" <= char <= "z" or "A" <= char <= "Z"


def is_digit(char):
    return "0" <= char <= "9"


def is_name_part(char):
    return is_letter(char) or is_digit(char) or char == "_"


def place_of(text, at):
    """Return the line and the column of the character with the index `at`, or of the end of the text."""
    line = text.count("\n", 0, at) + 1
    # Without a newline before the character, rfind gives -1, which is just what the first line needs.
    column = at - text.rfind("\n", 0, at)
    return (line, column)


def read_name(text, at):
    end = at
    while end < len(text) and is_name_part(text[end]):
        end += 1
    if end - at > NAME_LIMIT:
        return ("fault", "name too long", at + NAME_LIMIT)
    return ("name", text[at:end], end)


def read_number(text, at):
    end = at
    while end < len(text) and is_digit(text[end]):
        end += 1
    return ("number", int(text[at:end]), end)


def read_quoted(text, at):
    end = text.find('"', at + 1)
    while end >= 0 and text.startswith('""', end):
        end = text.find('"', end + 2)
    if end < 0:
        return ("fault", "quoted text without an end", len(text))
    return ("quoted", text[at + 1:end].replace('""', '"'), end + 1)


def read_sign(text, at):
    """Return the kind and the value of the sign that begins at the index, and the index behind it.

    For a sign fault this is the kind "fault", the message, and the index of the fault.
    """
    char = text[at]
    if is_letter(char):
        return read_name(text, at)
    if is_digit(char):
        return read_number(text, at)
    if char == '"':
        return read_quoted(text, at)
    if char in SYMBOLS:
        return ("symbol", char, at + 1)
    return ("fault", "unexpected character", at)


def read_signs(text):
    """Return the signs of the text as tuples (kind, value, line, column), and its end or its sign fault."""
    signs = []
    at = 0
    while at < len(text):
        if text[at] in BLANKS:
            at += 1
            continue
        kind, value, behind = read_sign(text, at)
        if kind == "fault":
            line, column = place_of(text, behind)
            signs.append((kind, value, line, column))
            return signs
        line, column = place_of(text, at)
        signs.append((kind, value, line, column))
        at = behind
    line, column = place_of(text, at)
    signs.append(("end", "", line, column))
    return signs
