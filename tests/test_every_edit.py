"""Texts a byte or two away from good ones, against a second reading of the document."""

import re
import unittest

from helper import KNOWN, SAID, ask, item, piece

EDITS = b"\n '-=~ab"

LONG = b"ab c\na-b  c\nx-yy z\n'so it is\n\n'a b\n'=a b\n1=2 345\n\nabab\na~b-a=b\nx~y-x=y\n"
SHORT = b"ab\na-b\nx-y\n"


def rows(place, line):
    return [(place + found.start(), found.group()) for found in re.finditer(rb"[^ ]+", line)]


def word_fault(word, cut, gloss):
    forms, meanings = re.split(rb"[-=~]", cut[1]), re.split(rb"[-=~]", gloss[1])
    tests = [(b"" in forms, 4, cut), (b"" in meanings, 4, gloss),
             (re.findall(rb"[-=~]", cut[1]) != re.findall(rb"[-=~]", gloss[1]), 5, gloss),
             (b"".join(forms) != word[1], 6, cut), (len(forms) > 8, 7, cut)]
    for wrong, kind, row in tests:
        if wrong:
            return [-3, kind, row[0]]
    return None


def item_fault(lines, places, amount, end):
    if len(lines) < 3:
        return [-3, 1, end]
    if amount == 60:
        return [-3, 7, places[0]]
    three = [rows(place, line) for place, line in zip(places[:3], lines)]
    if not 1 <= len(three[0]) <= 30:
        return [-3, 7 if three[0] else 1, places[0]]
    for level in (1, 2):
        if len(three[level]) != len(three[0]):
            return [-3, level + 1, places[level]]
    for trio in zip(*three):
        fault = word_fault(*trio)
        if fault:
            return fault
    return None


def reading(text):
    """A fault as it is answered, or the items: of each its words (three rows) and its free line."""
    if text and not text.endswith(b"\n"):
        return [-3, 1, len(text)]
    lines = text.split(b"\n")[:-1]
    places = [sum(len(line) + 1 for line in lines[:n]) for n in range(len(lines))]
    found = []
    while lines:
        fault = item_fault(lines, places, len(found), len(text))
        if fault:
            return fault
        has_free = len(lines) > 3 and lines[3].startswith(b"'")
        used = 4 if has_free else 3
        found.append((list(zip(*[re.findall(rb"[^ ]+", line) for line in lines[:3]])), lines[3] if has_free else None))
        lines, places = lines[used:], places[used:]
        if lines and (lines[0] or len(lines) == 1):
            return [-3, 1, places[0]]
        lines, places = lines[1:], places[1:]
    return found


def in_columns(found):
    shown = []
    for words, free in found:
        widths = [max(map(len, word)) for word in words]
        for level in range(3):
            cells = [word[level].ljust(width) for word, width in zip(words, widths)]
            shown.append(b" ".join(cells).rstrip(b" ") + b"\n")
        shown.append((free + b"\n" if free else b"") + b"\n")
    return b"".join(shown)[:-1]


def pieces(found):
    """The known pieces, each with how often it comes, as they are answered."""
    every = []
    for words, free in found:
        for word, cut, gloss in words:
            seams = [0] + [ord(seam) for seam in re.findall(rb"[-=~]", cut)]
            every.extend(zip(seams, re.split(rb"[-=~]", cut), re.split(rb"[-=~]", gloss)))
    return [[every.count(one), one[0], len(one[1]), *one[1], len(one[2]), *one[2]] for one in dict.fromkeys(every)]


def edits(text):
    for at in range(len(text) + 1):
        yield text[:at]
        for sign in EDITS:
            yield text[:at] + bytes([sign]) + text[at:]
            if at < len(text):
                yield text[:at] + bytes([sign]) + text[at + 1:]
        if at < len(text):
            yield text[:at] + text[at + 1:]


class EveryEdit(unittest.TestCase):
    def compare(self, text):
        wanted = reading(text)
        first = [1, len(text), *text, 0]
        if wanted and wanted[0] == -3:
            self.assertEqual(ask(first, SAID, KNOWN), [wanted, [0], [0]], text)
            return
        known = pieces(wanted)
        shown = in_columns(wanted)
        asked = [first, SAID, KNOWN]
        expected = [[len(wanted)], [len(shown), *shown], [len(known)]]
        for number in range(len(wanted) + 1):
            asked.append(item(number))
        for words, free in wanted:
            expected.append([len(words), *[len(re.split(rb"[-=~]", word[1])) for word in words]])
        expected.append([-2])
        for number in range(len(known) + 1):
            asked.append(piece(number))
        self.assertEqual(ask(*asked), expected + known + [[-2]], text)

    def test_one_edit(self):
        for text in edits(LONG):
            self.compare(text)

    def test_two_edits(self):
        seen = {}
        for once in edits(SHORT):
            for twice in edits(once):
                if twice not in seen:
                    seen[twice] = True
                    self.compare(twice)

    def test_the_text_itself(self):
        self.compare(LONG)
        self.compare(SHORT)
        self.assertEqual(len(reading(LONG)), 3)
        self.assertEqual(len(pieces(reading(LONG))), 9)


if __name__ == "__main__":
    unittest.main()
