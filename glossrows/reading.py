"""A text read strictly: its items, or its first fault."""

from glossrows.signs import LINE_END, QUOTE, lines_of, parts_of, rows_of, seams_of, without_seams

BAD_LINES = 1
BAD_PIECE_ROWS = 2
BAD_GLOSS_ROWS = 3
EMPTY_PART = 4
OTHER_SEAMS = 5
OTHER_WORD = 6
TOO_MANY = 7

MOST_ITEMS = 60
MOST_WORDS = 30
MOST_PIECES = 8

# A word has no seam ahead of its first piece.
NO_SEAM = 0

# Where a piece keeps what it has.
SEAM = 0
FORM = 1
GLOSS = 2


class Fault(Exception):
    def __init__(self, kind, place):
        self.kind = kind
        self.place = place


# rows: the bytes of the word, of its pieces and of its glosses, as they stand in the three lines.
# pieces: of each its seam, form and gloss, in tuples, so that a piece can be a key.
class Word:
    def __init__(self, rows, pieces):
        self.rows = rows
        self.pieces = pieces


# free: the line that begins with ', whole; empty if there is none, since that line never is.
class Item:
    def __init__(self, words, free):
        self.words = words
        self.free = free


def entries_of(text):
    if len(text) == 0:
        return []
    if text[-1] != LINE_END:
        raise Fault(BAD_LINES, len(text))
    lines = lines_of(text)
    entries = []
    at = 0
    while at < len(lines):
        if at + 3 > len(lines):
            raise Fault(BAD_LINES, len(text))
        if len(entries) == MOST_ITEMS:
            raise Fault(TOO_MANY, lines[at].place)
        words = words_of(lines[at], lines[at + 1], lines[at + 2])
        free = free_line(lines, at + 3)
        entries.append(Item(words, free))
        at += 3 if len(free) == 0 else 4
        check_line_between(lines, at)
        at += 1
    return entries


def free_line(lines, at):
    if at < len(lines) and lines[at].signs[:1] == [QUOTE]:
        return lines[at].signs
    return []


def check_line_between(lines, at):
    if at == len(lines):
        return
    if len(lines[at].signs) > 0 or at + 1 == len(lines):
        raise Fault(BAD_LINES, lines[at].place)


def words_of(first, second, third):
    written = rows_of(first)
    pieces = rows_of(second)
    glosses = rows_of(third)
    if len(written) == 0:
        raise Fault(BAD_LINES, first.place)
    if len(written) > MOST_WORDS:
        raise Fault(TOO_MANY, first.place)
    if len(pieces) != len(written):
        raise Fault(BAD_PIECE_ROWS, second.place)
    if len(glosses) != len(written):
        raise Fault(BAD_GLOSS_ROWS, third.place)
    return [word_of(word, cut, gloss) for word, cut, gloss in zip(written, pieces, glosses)]


def word_of(written, pieces, glosses):
    forms = parts_of(pieces)
    meanings = parts_of(glosses)
    seams = seams_of(pieces)
    if [] in forms:
        raise Fault(EMPTY_PART, pieces.place)
    if [] in meanings:
        raise Fault(EMPTY_PART, glosses.place)
    if seams != seams_of(glosses):
        raise Fault(OTHER_SEAMS, glosses.place)
    if without_seams(pieces) != written.signs:
        raise Fault(OTHER_WORD, pieces.place)
    if len(forms) > MOST_PIECES:
        raise Fault(TOO_MANY, pieces.place)
    rows = (written.signs, pieces.signs, glosses.signs)
    return Word(rows, pieces_of([NO_SEAM] + seams, forms, meanings))


def pieces_of(seams, forms, meanings):
    return [(seam, tuple(form), tuple(gloss)) for seam, form, gloss in zip(seams, forms, meanings)]
