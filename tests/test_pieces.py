import unittest

from helper import KNOWN, LARGEST, ONE, ask, call, counted, item, many_items, many_words, piece, pieces_of, read


class Items(unittest.TestCase):
    def test_how_many_words_then_the_pieces_of_each(self):
        text = "abc d ef\na-b-c d e=f\n1-2-3 4 5=6\n\nghij\ng~h~i~j\n1~2~3~4\n"
        told = ask(read(text), item(0), item(1))
        self.assertEqual(told, [[2], [3, 3, 1, 2], [1, 4]])

    def test_items_with_and_without_the_line_with_a_quote(self):
        text = ONE + "'so\n\n" + "a b\na b\nx y\n"
        self.assertEqual(ask(read(text), item(0), item(1))[1:], [[1, 1], [2, 1, 1]])

    def test_the_edges(self):
        self.assertEqual(ask(read(many_words(30)), item(0))[1], [30] + [1] * 30)
        self.assertEqual(ask(read(many_items(60)), item(59), item(60))[1:], [[1, 1], [-2]])

    def test_no_such_item(self):
        told = ask(read(ONE), item(0), item(1), item(2), item(LARGEST))
        self.assertEqual(told, [[1], [1, 1], [-2], [-2], [-2]])

    def test_no_item_of_the_empty_text(self):
        self.assertEqual(ask(item(0), item(1), item(LARGEST)), [[-2]] * 3)
        self.assertEqual(ask(read(""), item(0)), [[0], [-2]])

    def test_a_refusal_changes_nothing(self):
        self.assertEqual(ask(read(ONE), item(7), item(0), KNOWN), [[1], [-2], [1, 1], [1]])


class Known(unittest.TestCase):
    def test_the_empty_text_has_none(self):
        self.assertEqual(ask(KNOWN), [[0]])
        self.assertEqual(ask(read(""), KNOWN), [[0], [0]])

    def test_in_the_order_in_which_they_come_first(self):
        text = "ba c\nb-a c\ny-x z\n\nc d a\nc d a\nz w x\n"
        self.assertEqual(pieces_of(text), [(1, 0, "b", "y"), (1, 45, "a", "x"), (2, 0, "c", "z"),
                                           (1, 0, "d", "w"), (1, 0, "a", "x")])

    def test_each_once(self):
        self.assertEqual(ask(read(many_items(60)), KNOWN)[1], [1])
        self.assertEqual(pieces_of(many_items(60)), [(60, 0, "a", "x")])
        self.assertEqual(pieces_of("a a a\na a a\nx x x\n"), [(3, 0, "a", "x")])
        self.assertEqual(pieces_of("aaa\na-a-a\nx-x-x\n"), [(1, 0, "a", "x"), (2, 45, "a", "x")])

    def test_the_seam_tells_pieces_apart(self):
        text = "aaaa\na-a=a~a\nx-x=x~x\n"
        self.assertEqual(pieces_of(text), [(1, 0, "a", "x"), (1, 45, "a", "x"), (1, 61, "a", "x"), (1, 126, "a", "x")])

    def test_the_form_tells_pieces_apart(self):
        self.assertEqual(pieces_of("a b\na b\nx x\n"), [(1, 0, "a", "x"), (1, 0, "b", "x")])

    def test_the_gloss_tells_pieces_apart(self):
        self.assertEqual(pieces_of("a a a\na a a\nx y x\n"), [(2, 0, "a", "x"), (1, 0, "a", "y")])

    def test_form_and_gloss_are_not_run_together(self):
        self.assertEqual(pieces_of("ab a\nab a\nc bc\n"), [(1, 0, "ab", "c"), (1, 0, "a", "bc")])

    def test_forms_and_glosses_are_told_apart(self):
        self.assertEqual(pieces_of("a x\na x\nx a\n"), [(1, 0, "a", "x"), (1, 0, "x", "a")])

    def test_the_line_with_a_quote_has_no_pieces(self):
        self.assertEqual(pieces_of(ONE + "'a b-c\n"), [(1, 0, "a", "x")])

    def test_a_dot_does_not_part_a_gloss(self):
        self.assertEqual(pieces_of("a\na\nbe.PST\n"), [(1, 0, "a", "be.PST")])


class Pieces(unittest.TestCase):
    def test_how_it_is_answered(self):
        told = ask(read("dogs\ndog-s\nhund-PL\n"), piece(0), piece(1))
        self.assertEqual(told[1], [1, 0] + counted("dog") + counted("hund"))
        self.assertEqual(told[2], [1, 45] + counted("s") + counted("PL"))

    def test_bytes_of_every_kind(self):
        odd = "".join([chr(n) for n in range(256) if chr(n) not in " \n-=~"])
        turned = odd[::-1]
        told = ask(read(f"{odd}\n{odd}\n{turned}\n"), piece(0))
        self.assertEqual(told[1], [1, 0] + counted(odd) + counted(turned))

    def test_no_such_piece(self):
        told = ask(read(ONE), piece(0), piece(1), piece(2), piece(LARGEST))
        self.assertEqual(told, [[1], [1, 0, 1, 97, 1, 120], [-2], [-2], [-2]])

    def test_no_piece_of_the_empty_text(self):
        self.assertEqual(ask(piece(0), piece(1), piece(LARGEST)), [[-2]] * 3)
        self.assertEqual(ask(read(""), piece(0)), [[0], [-2]])

    def test_a_refusal_changes_nothing(self):
        self.assertEqual(ask(read(ONE), piece(1), piece(0))[2], ask(read(ONE), piece(0))[1])

    def test_known_anew_with_each_text(self):
        told = ask(read("a b\na b\nx y\n"), read("b\nb\ny\n"), KNOWN, piece(0), piece(1), call(0), KNOWN, piece(0))
        self.assertEqual(told[2:], [[1], [1, 0, 1, 98, 1, 121], [-2], [0], [0], [-2]])


if __name__ == "__main__":
    unittest.main()
