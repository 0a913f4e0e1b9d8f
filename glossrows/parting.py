"""Words taken apart: the rows of known pieces that make a word."""


# ways: of each place in the word, in how many ways the bytes from there on are made.
class Parting:
    def __init__(self, text, word):
        self.text = text
        self.word = word
        self.ways = [0] * len(word) + [1]
        for at in range(len(word) - 1, -1, -1):
            self.ways[at] = ways_from(self, at)


# Forms are never empty, so that a piece is the row's first just if it stands at the word's beginning.
def pieces_between(parting, at, end):
    pieces = parting.text.firsts if at == 0 else parting.text.others
    return pieces.get(tuple(parting.word[at:end]), [])


def ways_from(parting, at):
    total = 0
    for end in range(at + 1, len(parting.word) + 1):
        total += len(pieces_between(parting, at, end)) * parting.ways[end]
    return total


def amount_of_rows(parting):
    # The empty word would be made in one way, by no pieces, which the document rules out.
    if len(parting.word) == 0:
        return 0
    return parting.ways[0]


# A begun row is its numbers and how many bytes of the word they make. Each can be ended, since no choice
# leads nowhere; so none behind the first so many is needed, however many ways there are.
def first_rows(parting, most):
    if amount_of_rows(parting) == 0:
        return []
    choices = [choices_at(parting, at, most) for at in range(len(parting.word))]
    begun = [([], 0)]
    for count in range(len(choices)):
        begun = grown(begun, choices)[:most]
    return [numbers for numbers, made in begun]


# Rows that make the whole word stay as they are, while the others need more pieces.
def grown(begun, choices):
    rows = []
    for numbers, made in begun:
        if made == len(choices):
            rows.append((numbers, made))
        else:
            rows.extend([(numbers + [number], end) for number, end in choices[made]])
    return rows


# The pieces that can come next, by their numbers, with the place where each ends.
def choices_at(parting, at, most):
    choices = []
    for end in range(at + 1, len(parting.word) + 1):
        if parting.ways[end] > 0:
            choices.extend([(number, end) for number in pieces_between(parting, at, end)[:most]])
    return sorted(choices)[:most]
