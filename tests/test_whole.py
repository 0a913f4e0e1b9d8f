"""What holds over the whole program: what's said is read as the same; what's been glossed is found again."""

import re
import unittest

from glossrows.desk import answers
from helper import (BEGINS, KNOWN, LARGEST, ONE, SAID, UNLIKE, apart, ask, call, find, forms, glosses, item, joined,
                    many_items, many_pieces, many_words, piece, pieces_of, places_in, read, rows_in, said_of, sized,
                    step)

GLOSSED = ("  dogs   bark at dogs \ndog-s bark at dog=s\ndog-PL bark.PRS at dog=POSS\n'  Dogs bark  at dogs. \n\n"
           "'bark barked cat\n'bark bark-ed cat\ncry cry-PST.IND PL\n\nbarkbarked\nbark~bark-ed\n.x~x.-..\n'\n")

TEXTS = ["", ONE, many_items(60), many_words(30), many_pieces(8), sized(6000), GLOSSED,
         "a b\na b\nmeaning y\n\nab a\na=b a\nx=y longer\n'so\n\nabab\na-b-ab\nx-y-z\n"]


def trios(text):
    """Of each item of a good text its words, each as its three rows."""
    return [list(zip(*[line.split() for line in entry.split("\n")[:3]])) for entry in text.split("\n\n") if entry]


def parts(row):
    return re.split("[-=~]", row)


class SaidIsReadAsTheSame(unittest.TestCase):
    def test_all_that_is_told_stays(self):
        for text in TEXTS:
            again = said_of(text)
            self.assertLessEqual(len(again), 6000)
            known = len(pieces_of(text))
            asked = [SAID, KNOWN, UNLIKE, find(step(0)), find(step(0), step(30), step(1, (6, "x")))]
            asked += [item(number) for number in range(len(trios(text)) + 1)][:40]
            asked += [piece(number) for number in range(known + 1)]
            self.assertEqual(ask(read(again), *asked), ask(read(text), *asked), text)

    def test_said_and_read_within_one_line_of_calls(self):
        again = said_of(GLOSSED)
        asked = [SAID, KNOWN, item(0), item(1), item(2), item(3), piece(0), piece(3), piece(99), UNLIKE]
        told = ask(read(GLOSSED), *asked, read(again), *asked)
        self.assertEqual(told[:len(asked) + 1], told[len(asked) + 1:])

    def test_apart_stays(self):
        for text in TEXTS:
            words = sorted({trio[0] for words in trios(text) for trio in words if len(trio[0]) <= 40})
            asked = [apart(20, word) for word in words[:90]]
            self.assertEqual(ask(read(said_of(text)), *asked), ask(read(text), *asked), text)


class GlossedIsFoundAgain(unittest.TestCase):
    def test_by_its_own_forms_and_glosses(self):
        for text in TEXTS:
            for number, words in enumerate(trios(text)):
                for at, (written, cut, gloss) in enumerate(words):
                    self.found_at((number, at, at), text, written, parts(cut), parts(gloss))

    def found_at(self, place, text, written, own_forms, own_glosses):
        wanted = [(0, written), (4, own_glosses[0]), (5, own_glosses[-1])]
        wanted += [(1, form) for form in own_forms] + [(2, gloss) for gloss in own_glosses]
        wanted += [(3, part) for gloss in own_glosses for part in gloss.split(".")]
        asked = [find(step(0, one)) for one in wanted] + [find(step(0, *wanted[:4])), find(step(0, *wanted[-4:]))]
        for one, told in zip(asked, ask(read(text), *asked)[1:]):
            self.assertIn(place, places_in(told), (text, one))
        asked = [find(step(0, (6, gloss))) for gloss in own_glosses]
        for one, told in zip(asked, ask(read(text), *asked)[1:]):
            self.assertNotIn(place, places_in(told), (text, one))

    def test_words_in_turn(self):
        for text in TEXTS:
            for number, words in enumerate(trios(text)):
                for at in range(len(words) - 3):
                    steps = [step(0, (0, word[0])) for word in words[at:at + 4]]
                    told = ask(read(text), find(*steps))[1]
                    self.assertIn((number, at, at + 3), places_in(told))

    def test_apart_has_its_own_row(self):
        for text in TEXTS:
            known = [one[1:] for one in pieces_of(text)]
            for words in trios(text):
                for written, cut, gloss in words:
                    seams = [0] + [ord(seam) for seam in re.findall("[-=~]", cut)]
                    own = [known.index(one) for one in zip(seams, parts(cut), parts(gloss))]
                    amount, rows = rows_in(ask(read(text), apart(20, written))[1])
                    self.assertLessEqual(amount, 20)
                    self.assertIn(own, rows, (text, written))

    def test_a_known_piece_is_among_those_of_its_form_and_of_its_gloss(self):
        for text in TEXTS:
            for number, (times, seam, form, gloss) in enumerate(pieces_of(text)):
                by_form, by_gloss = ask(read(text), glosses(form), forms(gloss))[1:]
                for told in (by_form, by_gloss):
                    self.assertEqual(told[0], len(told) - 1)
                    self.assertEqual(told[1:], sorted(set(told[1:])))
                    self.assertIn(number, told[1:])


REFUSED = [read(sized(6001)), read("a"), read("a\nb\nx\n"), item(99), item(LARGEST), piece(99), piece(LARGEST),
           apart(21, "a"), apart(LARGEST, "a"), apart(0, "a" * 41), call(10, [0]), find(*[step(0)] * 5),
           find(step(31)), find(step(LARGEST)), find(step(0, *[(0, "a")] * 5)), find(step(0, (7, "a")))]

ASKED = [SAID, KNOWN, item(0), item(2), piece(0), piece(5), glosses("bark"), forms("dog"), UNLIKE,
         apart(20, "barked"), find(step(0, (1, "bark")), step(30))]


class Refusals(unittest.TestCase):
    def test_each_changes_nothing(self):
        before = ask(read(GLOSSED), *ASKED)[1:]
        for one in REFUSED:
            told = ask(read(GLOSSED), one, *ASKED)
            self.assertLess(told[1][0], 0, one)
            self.assertEqual(told[2:], before, one)

    def test_each_stands_alone(self):
        for one in REFUSED:
            told = answers(joined([one]))
            self.assertEqual(len(told), 4 if told[1] == -3 else 2, one)

    def test_the_answers_that_the_others_have(self):
        self.assertEqual([answer[0] for answer in ask(read(GLOSSED), *REFUSED)[1:]],
                         [-1, -3, -3, -2, -2, -2, -2] + [-1] * 9)


class Lines(unittest.TestCase):
    def test_what_is_handed_in_stays_as_it_was(self):
        for calls in (joined([read(GLOSSED), *ASKED, *REFUSED, BEGINS, *ASKED]), joined(ASKED), joined(REFUSED)):
            before = list(calls)
            answers(calls)
            self.assertEqual(calls, before)

    def test_two_callings_know_nothing_of_one_another(self):
        fresh = answers(joined(ASKED))
        full = answers(joined([read(GLOSSED), *ASKED]))
        self.assertNotEqual(full[2:], fresh)
        self.assertEqual(answers(joined(ASKED)), fresh)
        answers(joined([read(ONE), *ASKED]))
        self.assertEqual(answers(joined([read(GLOSSED), *ASKED])), full)

    def test_what_is_given_back_is_new_each_time(self):
        calls = joined([read(GLOSSED), *ASKED])
        first = answers(calls)
        kept = list(first)
        first.clear()
        self.assertEqual(answers(calls), kept)

    def test_an_answer_does_not_change_what_is_answered_later(self):
        told = ask(read(GLOSSED), *ASKED * 3)[1:]
        self.assertEqual(told, told[:len(ASKED)] * 3)

    def test_100_calls(self):
        calls = [read(GLOSSED), *(ASKED * 9)]
        self.assertEqual(len(calls), 100)
        told = ask(*calls)
        self.assertEqual(told[1:], told[1:len(ASKED) + 1] * 9)

    def test_100_calls_of_each_kind(self):
        for one in ASKED + REFUSED[2:] + [BEGINS]:
            told = ask(read(ONE), *[one] * 99)
            self.assertEqual(told[1:], [told[1]] * 99)

    def test_texts_in_turn(self):
        told = ask(*[read(ONE), glosses("a"), find(step(0)), BEGINS, glosses("a"), find(step(0))] * 16)
        self.assertEqual(told, [[1], [1, 0], [1, 0, 0, 0], [0], [0], [0]] * 16)

    def test_whole_numbers_in_a_list(self):
        told = answers(joined([read(GLOSSED), *ASKED, *REFUSED]))
        self.assertIs(type(told), list)
        self.assertEqual({type(number) for number in told}, {int})


if __name__ == "__main__":
    unittest.main()
