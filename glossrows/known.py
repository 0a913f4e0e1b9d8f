"""A text that was read, with the pieces that are known from it."""

from glossrows.reading import FORM, GLOSS, NO_SEAM, SEAM
from glossrows.traits import traits_of_words


# times: how often each known piece comes. A dict keeps the order in which its keys came first,
# so its keys in a list are the known pieces by their numbers.
# by_form, by_gloss: the numbers of the known pieces of a form, of a gloss, rising.
# firsts, others: those of a form that can be a word's first piece, and those that can't.
# traits: of each item, of each word, what a search looks through.
class Text:
    def __init__(self, entries):
        self.entries = entries
        self.times = times_of(entries)
        self.known_pieces = list(self.times)
        numbered = list(enumerate(self.known_pieces))
        self.by_form = numbers_by(FORM, numbered)
        self.by_gloss = numbers_by(GLOSS, numbered)
        self.firsts = numbers_by(FORM, [(number, piece) for number, piece in numbered if piece[SEAM] == NO_SEAM])
        self.others = numbers_by(FORM, [(number, piece) for number, piece in numbered if piece[SEAM] != NO_SEAM])
        self.traits = [traits_of_words(item.words) for item in entries]


def times_of(entries):
    times = {}
    for item in entries:
        for word in item.words:
            for piece in word.pieces:
                times[piece] = times.get(piece, 0) + 1
    return times


def numbers_by(part, numbered):
    numbers = {}
    for number, piece in numbered:
        numbers.setdefault(piece[part], []).append(number)
    return numbers


# The forms come in the order of their first known pieces, which is that in which they come first.
def unlike_forms(text):
    return [form for form in text.by_form if has_two_glosses(text, form)]


def has_two_glosses(text, form):
    glosses = [text.known_pieces[number][GLOSS] for number in text.by_form[form]]
    return any([gloss != glosses[0] for gloss in glosses])
