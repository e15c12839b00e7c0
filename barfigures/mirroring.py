"""A linkage mirrored in the line of all x."""

from barfigures.linkage import PIN, RIDER
from barfigures.reading import read_linkage
from barfigures.scanning import BLANK, LINE_FEED, MINUS, ZERO


# Read anew from its text, so that both are sure to be of one linkage.
def mirrored(linkage):
    text = []
    for line, row in zip(linkage.lines, rows_of(linkage.text), strict=True):
        text.extend(mirrored_row(row) if line.kind in (PIN, RIDER) else row)
    return read_linkage(text)


# The lines of a text, each with its line feed.
def rows_of(text):
    rows = []
    start = 0
    for spot, byte in enumerate(text):
        if byte == LINE_FEED:
            rows.append(text[start:spot + 1])
            start = spot + 1
    return rows


# A pin's y and a rider's v are the last words of their lines.
def mirrored_row(row):
    start = len(row)
    while row[start - 1] != BLANK:
        start -= 1
    if row[start] == MINUS:
        return row[:start] + row[start + 1:]
    # Nothing but 0 itself begins with it.
    if row[start] == ZERO:
        return row
    return row[:start] + [MINUS] + row[start:]
