"""A text that was read, with the pieces that are known from it."""


# times: how often each known piece comes. A dict keeps the order in which its keys came first,
# so its keys in a list are the known pieces by their numbers.
class Text:
    def __init__(self, entries):
        self.entries = entries
        self.times = times_of(entries)
        self.known_pieces = list(self.times)


def times_of(entries):
    times = {}
    for item in entries:
        for word in item.words:
            for piece in word.pieces:
                times[piece] = times.get(piece, 0) + 1
    return times
