"""Searches: a row of steps, and at which words it is found."""

from glossrows.traits import has_trait

MOST_STEPS = 4
MOST_GAP = 30
MOST_WANTED = 4
MOST_KIND = 6


class BadSteps(Exception):
    pass


# wanted: of each thing its kind and its bytes, these in a tuple as the bytes of pieces are.
class Step:
    def __init__(self, gap, wanted):
        self.gap = gap
        self.wanted = wanted


# The numbers of a call, taken from the first on.
class Source:
    def __init__(self, numbers):
        self.numbers = numbers
        self.at = 0

    def take(self):
        self.at += 1
        return self.numbers[self.at - 1]

    def take_up_to(self, most):
        number = self.take()
        if number > most:
            raise BadSteps()
        return number

    def take_counted(self):
        amount = self.take()
        self.at += amount
        return tuple(self.numbers[self.at - amount:self.at])


def steps_of(numbers):
    source = Source(numbers)
    amount = source.take_up_to(MOST_STEPS)
    if amount == 0:
        raise BadSteps()
    return [step_of(source) for count in range(amount)]


def step_of(source):
    gap = source.take_up_to(MOST_GAP)
    amount = source.take_up_to(MOST_WANTED)
    wanted = []
    for count in range(amount):
        kind = source.take_up_to(MOST_KIND)
        wanted.append((kind, source.take_counted()))
    return Step(gap, wanted)


# Of each place its item, its word and its end.
def places_of(text, steps):
    places = []
    for number, words in enumerate(text.traits):
        for at, end in enumerate(ends_of(words, steps)):
            if end < len(words):
                places.append([number, at, end])
    return places


# Of each word of an item the end of the steps that are found there. From the last step back, the earliest ends
# of the steps from one on are told by those from the next on, so that no way through the words is gone twice.
def ends_of(words, steps):
    nowhere = len(words)
    ends = []
    reached = list(range(nowhere))
    for step in reversed(steps):
        ends = [end if fits(word, step) else nowhere for word, end in zip(words, reached)]
        reached = [min(ends[at + 1:at + 2 + step.gap], default=nowhere) for at in range(nowhere)]
    return ends


def fits(traits, step):
    return all([has_trait(traits, kind, signs) for kind, signs in step.wanted])
