"""Changes texts, divides them into lines of words, and hides words."""

from corpuskeep.shapes import has_any_shape
from corpuskeep.signs import BLANKS


def change_text(text, changes):
    """Return the changed text as tuples (character, index of the original text)."""
    replacements = {char: replacement for char, replacement in changes}
    changed = []
    for index, char in enumerate(text):
        for new in replacements.get(char, char):
            changed.append((new, index))
    return changed


def placed_word(chars):
    """Return the placed word of a run of tuples (character, index)."""
    word = "".join([char for char, index in chars])
    return (word, chars[0][1], chars[-1][1])


def split_lines(changed):
    """Return the lines of a changed text, each a list of placed words."""
    lines = []
    line = []
    start = 0
    # A newline more than the text has ends the last word and the last line like all others.
    for at, (char, index) in enumerate(changed + [("\n", 0)]):
        if char not in BLANKS:
            continue
        if start < at:
            line.append(placed_word(changed[start:at]))
        start = at + 1
        if char == "\n":
            lines.append(line)
            line = []
    return lines


def hide_words(lines, hidden, mark):
    """Return the lines with the mark in place of each word that has a hidden shape."""
    # Texts repeat their words, so each different word is asked for its shape only once.
    shown = {}
    for line in lines:
        for word, first, last in line:
            if word not in shown:
                shown[word] = mark if has_any_shape(word, hidden) else word
    return [[(shown[old], start, end) for old, start, end in row] for row in lines]


def text_lines(text, rules):
    """Return the lines of a text, changed and with hidden words replaced."""
    lines = split_lines(change_text(text, rules.changes))
    return hide_words(lines, rules.hidden, rules.mark)


def plain_words(placed):
    """Return placed words without their places."""
    return [word for word, first, last in placed]


def exam_words(text, rules):
    """Return the words of an exam text, of which nothing is dropped."""
    words = []
    for line in text_lines(text, rules):
        words.extend(plain_words(line))
    return words
