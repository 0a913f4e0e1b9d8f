"""The bytes of a text and how they part: lines, the rows of a line, the parts of a row."""

LINE_END = 10
BLANK = 32
QUOTE = 39
DOT = 46
SEAMS = (45, 61, 126)


# A stretch of the text: a line without its end, or a row of one. Faults are told by its place.
class Row:
    def __init__(self, place, signs):
        self.place = place
        self.signs = signs


# All that stands between the marks, empty stretches too: an empty line and an empty piece matter.
def cut_at(row, marks):
    cuts = []
    start = 0
    for at, sign in enumerate(row.signs):
        if sign in marks:
            cuts.append(Row(row.place + start, row.signs[start:at]))
            start = at + 1
    cuts.append(Row(row.place + start, row.signs[start:]))
    return cuts


# For a text whose last line is ended: behind that end stands no line, so the last cut is left out.
def lines_of(text):
    return cut_at(Row(0, text), (LINE_END,))[:-1]


# Several blanks part like one, so what is empty between them is no row.
def rows_of(line):
    return [row for row in cut_at(line, (BLANK,)) if len(row.signs) > 0]


def parts_of(row):
    return [part.signs for part in cut_at(row, SEAMS)]


def seams_of(row):
    return [sign for sign in row.signs if sign in SEAMS]


def without_seams(row):
    return [sign for sign in row.signs if sign not in SEAMS]


# A gloss is a tuple, and so are its parts.
def dotted_parts(gloss):
    return [part.signs for part in cut_at(Row(0, gloss), (DOT,))]
