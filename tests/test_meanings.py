"""What a form means, by which forms something is said, which forms have several meanings."""

import unittest

from helper import BEGINS, KNOWN, ONE, UNLIKE, ask, counted, forms, glosses, joined, pieces_of, read

# 0: a x; 1: -a x; 2: b x; 3: a y; 4: =a y; 5: ~b z
TEXT = "aa b a\na-a b a\nx-x x y\n\naab a\na=a~b a\ny=y~z x\n"


def unlike_of(text):
    told = ask(read(text), UNLIKE)[1]
    found = []
    at = 1
    while at < len(told):
        end = at + 1 + told[at]
        found.append(bytes(told[at + 1:end]).decode("latin-1"))
        at = end
    if told != [len(found), *joined([counted(form) for form in found])]:
        raise AssertionError(f"unlike tells a wrong count: {told}")
    return found


class TheText(unittest.TestCase):
    def test_its_known_pieces(self):
        self.assertEqual(pieces_of(TEXT), [(2, 0, "a", "x"), (1, 45, "a", "x"), (1, 0, "b", "x"), (2, 0, "a", "y"),
                                           (1, 61, "a", "y"), (1, 126, "b", "z")])


class Glosses(unittest.TestCase):
    def test_known_pieces_of_a_form_rising(self):
        self.assertEqual(ask(read(TEXT), glosses("a"), glosses("b"))[1:], [[4, 0, 1, 3, 4], [2, 2, 5]])

    def test_one_known_piece(self):
        self.assertEqual(ask(read(ONE), glosses("a"))[1], [1, 0])

    def test_how_it_is_written(self):
        self.assertEqual(ask(read(ONE), [6, 1, 97, 0])[1], [1, 0])

    def test_a_form_that_is_not_known(self):
        self.assertEqual(ask(read(TEXT), glosses("c"), glosses("x"), glosses("aa"), glosses("-a"))[1:], [[0]] * 4)
        self.assertEqual(ask(read("abc\nab-c\nx-y\n"), glosses("a"), glosses("b"), glosses("abc"))[1:], [[0]] * 3)

    def test_the_empty_form(self):
        self.assertEqual(ask(read(TEXT), glosses(""))[1], [0])

    def test_the_empty_text(self):
        self.assertEqual(ask(glosses("a"), glosses("")), [[0], [0]])
        self.assertEqual(ask(read(ONE), BEGINS, glosses("a")), [[1], [0], [0]])

    def test_100_bytes(self):
        long = "a" * 100
        text = f"{long} {long[1:]}\n{long} {long[1:]}\nx y\n"
        self.assertEqual(ask(read(text), glosses(long), glosses(long[1:]), glosses("b" * 100))[1:],
                         [[1, 0], [1, 1], [0]])

    def test_bytes_of_every_kind(self):
        odd = "".join([chr(n) for n in range(256) if chr(n) not in " \n-=~"])
        first, second = odd[:100], odd[100:200]
        text = f"{first} {second}\n{first} {second}\nx y\n"
        self.assertEqual(ask(read(text), glosses(second), glosses(first))[1:], [[1, 1], [1, 0]])

    def test_how_often_a_piece_comes_counts_for_nothing(self):
        self.assertEqual(ask(read("a a a\na a a\nx x x\n"), glosses("a"))[1], [1, 0])

    def test_known_anew_with_each_text(self):
        told = ask(read(TEXT), read("b a\nb a\nx x\n"), glosses("a"), glosses("b"))
        self.assertEqual(told[2:], [[1, 1], [1, 0]])


class Forms(unittest.TestCase):
    def test_known_pieces_of_a_gloss_rising(self):
        self.assertEqual(ask(read(TEXT), forms("x"), forms("y"), forms("z"))[1:],
                         [[3, 0, 1, 2], [2, 3, 4], [1, 5]])

    def test_how_it_is_written(self):
        self.assertEqual(ask(read(ONE), [7, 1, 120, 0])[1], [1, 0])

    def test_a_gloss_that_is_not_known(self):
        self.assertEqual(ask(read(TEXT), forms("a"), forms("w"), forms("xx"), forms("x-x"))[1:], [[0]] * 4)

    def test_a_gloss_is_taken_whole(self):
        text = "a b\na b\nbe.PST PST\n"
        self.assertEqual(ask(read(text), forms("PST"), forms("be"), forms("be.PST"))[1:], [[1, 1], [0], [1, 0]])

    def test_the_empty_gloss(self):
        self.assertEqual(ask(read(TEXT), forms(""))[1], [0])

    def test_the_empty_text(self):
        self.assertEqual(ask(forms("x"), forms("")), [[0], [0]])
        self.assertEqual(ask(read(ONE), BEGINS, forms("x")), [[1], [0], [0]])

    def test_100_bytes(self):
        long = "x" * 100
        text = f"a b\na b\n{long} {long[1:]}\n"
        self.assertEqual(ask(read(text), forms(long), forms(long[1:]), forms("y" * 100))[1:], [[1, 0], [1, 1], [0]])

    def test_known_anew_with_each_text(self):
        told = ask(read(TEXT), read("b\nb\nz\n"), forms("x"), forms("z"))
        self.assertEqual(told[2:], [[0], [1, 0]])


class Unlike(unittest.TestCase):
    def test_forms_with_two_glosses(self):
        self.assertEqual(unlike_of(TEXT), ["a", "b"])

    def test_how_it_is_answered(self):
        self.assertEqual(ask(read("ab ab\nab ab\nx y\n"), [8, 0, 0])[1], [1, 2, 97, 98])

    def test_in_the_order_in_which_the_forms_come_first(self):
        self.assertEqual(unlike_of("b a c a b\nb a c a b\nx x x y y\n"), ["b", "a"])
        self.assertEqual(unlike_of("a b b a\na b b a\nx x y y\n"), ["a", "b"])
        self.assertEqual(unlike_of("zz\nz-z\nx-y\n\ny z y\ny z y\n1 2 3\n"), ["z", "y"])

    def test_a_form_once_however_many_glosses(self):
        self.assertEqual(unlike_of("a a a a\na a a a\nx y z w\n"), ["a"])

    def test_pieces_that_differ_by_the_seam_alone_do_not_count(self):
        self.assertEqual(unlike_of("aaaa\na-a=a~a\nx-x=x~x\n"), [])

    def test_glosses_that_differ_under_other_seams_count(self):
        self.assertEqual(unlike_of("aa\na-a\nx-y\n"), ["a"])
        self.assertEqual(unlike_of("aaa\na-a=a\nx-x=y\n"), ["a"])

    def test_one_gloss_of_several_forms_does_not_count(self):
        self.assertEqual(unlike_of("a b\na b\nx x\n"), [])

    def test_coming_often_does_not_count(self):
        self.assertEqual(unlike_of("a a\na a\nx x\n\n" + ONE), [])

    def test_dots_do_not_part_a_gloss(self):
        self.assertEqual(unlike_of("a a\na a\nx.y x\n"), ["a"])

    def test_the_empty_text(self):
        self.assertEqual(ask(UNLIKE), [[0]])
        self.assertEqual(ask(read(TEXT), BEGINS, UNLIKE, KNOWN), [[2], [0], [0], [0]])

    def test_known_anew_with_each_text(self):
        self.assertEqual(ask(read(TEXT), read(ONE), UNLIKE)[2], [0])


if __name__ == "__main__":
    unittest.main()
