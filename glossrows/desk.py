"""The calls about one text, and their answers as whole numbers."""

from glossrows.columns import said_text
from glossrows.known import Text, unlike_forms
from glossrows.parting import Parting, amount_of_rows, first_rows
from glossrows.reading import FORM, GLOSS, SEAM, Fault, entries_of
from glossrows.search import BadSteps, places_of, steps_of

OUT_OF_BOUNDS = -1
NOT_THERE = -2
FAULTY = -3

MOST_BYTES = 6000
MOST_ROWS = 20
MOST_WORD_BYTES = 40


class Desk:
    def __init__(self):
        self.text = Text([])


def begins(desk, numbers):
    desk.text = Text([])
    return [0]


def read(desk, numbers):
    if len(numbers) > MOST_BYTES:
        return [OUT_OF_BOUNDS]
    try:
        entries = entries_of(numbers)
    except Fault as fault:
        return [FAULTY, fault.kind, fault.place]
    desk.text = Text(entries)
    return [len(entries)]


def said(desk, numbers):
    return counted(said_text(desk.text.entries))


def item(desk, numbers):
    number = numbers[0]
    if number >= len(desk.text.entries):
        return [NOT_THERE]
    return counted([len(word.pieces) for word in desk.text.entries[number].words])


def known(desk, numbers):
    return [len(desk.text.known_pieces)]


def piece(desk, numbers):
    number = numbers[0]
    if number >= len(desk.text.known_pieces):
        return [NOT_THERE]
    found = desk.text.known_pieces[number]
    return [desk.text.times[found], found[SEAM]] + counted(list(found[FORM])) + counted(list(found[GLOSS]))


def glosses(desk, numbers):
    return counted(desk.text.by_form.get(tuple(numbers), []))


def forms(desk, numbers):
    return counted(desk.text.by_gloss.get(tuple(numbers), []))


def unlike(desk, numbers):
    unlike_ones = unlike_forms(desk.text)
    return [len(unlike_ones)] + joined([counted(list(form)) for form in unlike_ones])


def apart(desk, numbers):
    most = numbers[0]
    word = numbers[1:]
    if most > MOST_ROWS or len(word) > MOST_WORD_BYTES:
        return [OUT_OF_BOUNDS]
    parting = Parting(desk.text, word)
    return [amount_of_rows(parting)] + joined([counted(row) for row in first_rows(parting, most)])


def find(desk, numbers):
    try:
        steps = steps_of(numbers)
    except BadSteps:
        return [OUT_OF_BOUNDS]
    places = places_of(desk.text, steps)
    return [len(places)] + joined(places)


def counted(numbers):
    return [len(numbers)] + numbers


def joined(rows):
    numbers = []
    for row in rows:
        numbers.extend(row)
    return numbers


# A call's number is its place here.
CALLS = (begins, read, said, item, known, piece, glosses, forms, unlike, apart, find)


def answers(calls):
    desk = Desk()
    told = []
    at = 0
    while at < len(calls):
        amount = calls[at + 1]
        numbers = calls[at + 2:at + 2 + amount]
        answer = CALLS[calls[at]](desk, numbers)
        told.extend(counted(answer))
        # Behind a call's numbers stands how many lists it has, which is always 0.
        at += amount + 3
    return told
