"""Writes rules as their normal text."""

from corpuskeep.shapes import KINDS


def quoted(text):
    doubled = text.replace('"', '""')
    return f'"{doubled}"'


def part_text(part):
    """Return the text of one element of a shape."""
    kind, least, most = part
    name = kind if kind in KINDS else quoted(kind)
    if least != most:
        return f"{name} {least} to {most}"
    if least != 1:
        return f"{name} {least}"
    return name


def shape_text(shape):
    return ", ".join([part_text(part) for part in shape])


def sources_row(sources):
    listed = ", ".join([f"{name} {weight}" for name, weight in sources])
    return f"sources {listed};\n"


def banned_row(banned):
    if not banned:
        return ""
    listed = ", ".join([quoted(word) for word in banned])
    return f"ban {listed};\n"


def lines_row(words, documents):
    numbers = []
    if words != 0:
        numbers.append(f"least {words}")
    if documents != 0:
        numbers.append(f"common {documents}")
    if not numbers:
        return ""
    listed = ", ".join(numbers)
    return f"lines {listed};\n"


def format_rules(rules):
    """Return the normal text of the rules."""
    rows = [sources_row(rules.sources)]
    for char, text in rules.changes:
        rows.append(f"change {quoted(char)} to {quoted(text)};\n")
    rows.append(banned_row(rules.banned))
    rows.append(lines_row(rules.line_words, rules.line_documents))
    for shape in rules.hidden:
        rows.append(f"hide {shape_text(shape)};\n")
    rows.append(f"mark {quoted(rules.mark)};\n")
    rows.append(f"documents least {rules.document_words};\n")
    for shape, p, q in rules.shares:
        rows.append(f"share {shape_text(shape)}: {p} of {q};\n")
    rows.append(f"alike {rules.alike_least} of {rules.alike_of}, runs of {rules.run_words};\n")
    rows.append(f"phrases {rules.phrase_words};\n")
    rows.append(f"pieces least {rules.piece_words};\n")
    rows.append(f"joins {rules.join_limit};\n")
    rows.append(f"pages {rules.page_codes};\n")
    rows.append(f"volumes {rules.volume_pages};\n")
    return "".join(rows)
