"""The calls about one text, and their answers as whole numbers."""

from glossrows.columns import said_text
from glossrows.known import Text
from glossrows.reading import Fault, entries_of

TOO_LARGE = -1
NOT_THERE = -2
FAULTY = -3

MOST_BYTES = 6000


class Desk:
    def __init__(self):
        self.text = Text([])


def begins(desk, numbers):
    desk.text = Text([])
    return [0]


def read(desk, numbers):
    if len(numbers) > MOST_BYTES:
        return [TOO_LARGE]
    try:
        entries = entries_of(numbers)
    except Fault as fault:
        return [FAULTY, fault.kind, fault.place]
    desk.text = Text(entries)
    return [len(entries)]


def said(desk, numbers):
    return counted(said_text(desk.text.entries))


def item(desk, numbers):
    number = numbers[0]
    if number >= len(desk.text.entries):
        return [NOT_THERE]
    return counted([len(word.pieces) for word in desk.text.entries[number].words])


def known(desk, numbers):
    return [len(desk.text.known_pieces)]


def piece(desk, numbers):
    number = numbers[0]
    if number >= len(desk.text.known_pieces):
        return [NOT_THERE]
    found = desk.text.known_pieces[number]
    seam = found[0]
    form = list(found[1])
    gloss = list(found[2])
    return [desk.text.times[found], seam] + counted(form) + counted(gloss)


def counted(numbers):
    return [len(numbers)] + numbers


# A call's number is its place here.
CALLS = (begins, read, said, item, known, piece)


def answers(calls):
    desk = Desk()
    told = []
    at = 0
    while at < len(calls):
        amount = calls[at + 1]
        numbers = calls[at + 2:at + 2 + amount]
        answer = CALLS[calls[at]](desk, numbers)
        told.extend(counted(answer))
        # Behind a call's numbers stands how many lists it has, which is always 0.
        at += amount + 3
    return told
