"""The texts of books, bags, groves, plain groves and scripts."""


def list_text(names):
    """Return the text of a list of names."""
    return "(" + ", ".join(names) + ")"


def rows_text(head, rows):
    """Return a text: its head, and rows in braces."""
    lines = [head + " {"]
    for row in rows:
        lines.append(row + ";")
    lines.append("}")
    return "\n".join(lines) + "\n"


def bush_text(bush):
    """Return the text of a bush, which may be a plain one."""
    pieces = []
    # What is still to be written, the next one last: bushes, and the signs between them.
    waiting = [bush]
    while waiting:
        part = waiting.pop()
        if isinstance(part, str):
            pieces.append(part)
        elif len(part) == 1:
            pieces.append(part[0])
        else:
            pieces.append(part[0] + "(")
            waiting.append(")")
            for j in reversed(range(2, len(part))):
                waiting.append(part[j])
                waiting.append(", ")
            waiting.append(part[1])
    return "".join(pieces)


def book_text(book):
    """Return the text of a Book."""
    rows = [f"shape {word} {stem} {list_text(branches)}" for word, stem, branches in book.shapes()]
    return rows_text("book", rows)


def bag_text(bag):
    """Return the text of a Bag."""
    return rows_text("bag", [f"joint {name} {word}" for name, word in bag.joints()])


def grove_text(grove):
    """Return the text of a Grove."""
    return rows_text(f"grove {list_text(grove.roots())}", [bush_text(bush) for bush in grove.bushes()])


def plain_text(roots, bushes):
    """Return the text of a plain grove."""
    return rows_text(f"plain {list_text(roots)}", [bush_text(bush) for bush in bushes])


def place_text(place):
    """Return the text of a place."""
    return f"{place[0]} {place[1]}"


def deed_text(deed):
    """Return the text of a deed, without its semicolon."""
    return " ".join([deed[0]] + [place_text(place) for place in deed[1:]])


def script_text(script):
    """Return the text of a list of deeds."""
    return rows_text("script", [deed_text(deed) for deed in script])
