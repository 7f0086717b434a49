"""Writes words in codes by a list of joins."""

FILL = 0
END = 1
FIRST_CHAR = 2
FIRST_JOIN = 200


def char_code(char):
    return FIRST_CHAR + ord(char)


def make_join(codes, pair, code):
    """Return the codes with this code in place of the pair, wherever it stands from the left on."""
    first, second = pair
    made = []
    at = 0
    while at < len(codes):
        if codes[at] == first and at + 1 < len(codes) and codes[at + 1] == second:
            made.append(code)
            at += 2
        else:
            made.append(codes[at])
            at += 1
    return made


def word_codes(joins, word):
    """Return the codes of the word and the space behind it, with all joins made in their order."""
    codes = [char_code(char) for char in word + " "]
    for index, pair in enumerate(joins):
        codes = make_join(codes, pair, FIRST_JOIN + index)
    return codes
