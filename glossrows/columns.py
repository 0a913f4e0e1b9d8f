"""A text said in columns."""

from glossrows.signs import BLANK, LINE_END


def said_text(entries):
    signs = []
    for item in entries:
        if len(signs) > 0:
            signs.append(LINE_END)
        signs.extend(said_item(item))
    return signs


def said_item(item):
    widths = [max([len(row) for row in word.rows]) for word in item.words]
    signs = []
    for level in range(3):
        rows = [word.rows[level] for word in item.words]
        signs.extend(said_line(rows, widths))
    if len(item.free) > 0:
        signs.extend(item.free)
        signs.append(LINE_END)
    return signs


# Blanks stand ahead of a row, as what its forerunner lacks, so that none stand behind the last.
def said_line(rows, widths):
    signs = []
    missing = 0
    for row, width in zip(rows, widths):
        signs.extend([BLANK] * missing)
        signs.extend(row)
        missing = width - len(row) + 1
    signs.append(LINE_END)
    return signs
