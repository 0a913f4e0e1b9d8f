"""Calls written as lists of whole numbers, and answers taken apart, for the tests."""

import contextlib
import signal

from glossrows.desk import answers

LARGEST = 4294967295


def call(number, numbers=()):
    return [number, len(numbers), *numbers, 0]


def read(text):
    return call(1, text.encode("latin-1"))


def item(number):
    return call(3, [number])


def piece(number):
    return call(5, [number])


def glosses(form):
    return call(6, form.encode("latin-1"))


def forms(gloss):
    return call(7, gloss.encode("latin-1"))


def apart(most, word):
    return call(9, [most, *word.encode("latin-1")])


def step(gap, *wanted):
    """A step as it is told: its gap, how many things are wanted, of each its kind and its bytes, counted."""
    return [gap, len(wanted), *[number for kind, text in wanted for number in [kind, *counted(text)]]]


def find(*steps):
    return call(10, [len(steps), *joined(steps)])


BEGINS = call(0)
SAID = call(2)
KNOWN = call(4)
UNLIKE = call(8)


def joined(calls):
    return [number for one in calls for number in one]


def parted(told):
    """The answers of several calls, a list each; each one's count has to fit."""
    parts = []
    at = 0
    while at < len(told):
        end = at + 1 + told[at]
        if told[at] < 1 or end > len(told):
            raise AssertionError(f"a count doesn't fit at {at}: {told}")
        parts.append(told[at + 1:end])
        at = end
    return parts


def ask(*calls):
    parts = parted(answers(joined(calls)))
    if len(parts) != len(calls):
        raise AssertionError(f"{len(calls)} calls, {len(parts)} answers")
    return parts


@contextlib.contextmanager
def promptly():
    """Fails when what is done within takes so long that every way must have been gone."""
    def late(*told):
        raise AssertionError("not answered promptly")

    before = signal.signal(signal.SIGALRM, late)
    signal.alarm(20)
    try:
        yield
    finally:
        signal.alarm(0)
        signal.signal(signal.SIGALRM, before)


def rows_in(answer):
    """How many rows apart tells, and the rows, whose counts have to fit."""
    return answer[0], parted(answer[1:])


def places_in(answer):
    """The places that find tells: item, word and end of each."""
    if len(answer) != 1 + 3 * answer[0]:
        raise AssertionError(f"find tells a wrong count: {answer}")
    return [tuple(answer[at:at + 3]) for at in range(1, len(answer), 3)]


def counted(text):
    """How a row of bytes is answered: how many, then they."""
    signs = list(text.encode("latin-1"))
    return [len(signs), *signs]


def said_of(text):
    """The text in columns, for a text that is read without a fault."""
    first, second = ask(read(text), SAID)
    if first[0] < 0:
        raise AssertionError(f"{text!r} is refused: {first}")
    if second[0] != len(second) - 1:
        raise AssertionError(f"said tells a wrong count: {second}")
    return bytes(second[1:]).decode("latin-1")


def pieces_of(text):
    """Of each known piece: how often it comes, its seam, form and gloss."""
    amount = ask(read(text), KNOWN)[1][0]
    found = []
    for number in range(amount):
        answer = ask(read(text), piece(number))[1]
        size = answer[2]
        form = bytes(answer[3:3 + size]).decode("latin-1")
        rest = answer[3 + size:]
        if rest[0] != len(rest) - 1:
            raise AssertionError(f"piece tells a wrong count: {answer}")
        found.append((answer[0], answer[1], form, bytes(rest[1:]).decode("latin-1")))
    return found


ONE = "a\na\nx\n"


def many_items(amount):
    return "\n".join([ONE] * amount)


def many_words(amount):
    words = " ".join(["a"] * amount)
    return f"{words}\n{words}\n{words}\n"


def many_pieces(amount):
    row = "-".join(["a"] * amount)
    word = "a" * amount
    return f"{word}\n{row}\n{row}\n"


def sized(amount):
    """A text without a fault that has so many bytes, 7 at least."""
    return ONE + "'" + "f" * (amount - 8) + "\n"
