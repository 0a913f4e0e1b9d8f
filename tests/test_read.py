import unittest

from helper import (BEGINS, KNOWN, ONE, SAID, ask, item, many_items, many_pieces, many_words, piece,
                    pieces_of, read, said_of, sized)


class Begins(unittest.TestCase):
    def test_answers_0(self):
        self.assertEqual(ask(BEGINS), [[0]])

    def test_the_text_is_empty_at_the_beginning(self):
        self.assertEqual(ask(SAID, KNOWN, item(0), piece(0)), [[0], [0], [-2], [-2]])

    def test_the_text_is_empty_after_one_was_read(self):
        told = ask(read(ONE), BEGINS, SAID, KNOWN, item(0), piece(0))
        self.assertEqual(told, [[1], [0], [0], [0], [-2], [-2]])

    def test_a_text_can_be_read_afterwards(self):
        self.assertEqual(ask(BEGINS, read(ONE), KNOWN), [[0], [1], [1]])


class Accepted(unittest.TestCase):
    def accept(self, text, amount):
        self.assertEqual(ask(read(text)), [[amount]], repr(text))

    def test_the_empty_text(self):
        self.accept("", 0)

    def test_the_empty_text_takes_the_place_of_another(self):
        self.assertEqual(ask(read(ONE), read(""), SAID, KNOWN, item(0)), [[1], [0], [0], [0], [-2]])

    def test_items(self):
        self.accept(ONE, 1)
        self.accept(ONE + "\n" + ONE, 2)
        self.accept(ONE + "\n" + ONE + "\n" + ONE, 3)

    def test_the_line_with_a_quote(self):
        self.accept(ONE + "'so\n", 1)
        self.accept(ONE + "'\n", 1)
        self.accept(ONE + "'' - = ~ \n", 1)
        self.accept(ONE + "'so\n\n" + ONE, 2)
        self.accept(ONE + "\n" + ONE + "'so\n", 2)

    def test_a_quote_elsewhere_is_a_byte_like_others(self):
        self.accept("'a\n'a\n'x\n", 1)
        self.accept("'a\n'a\n'x\n'so\n", 1)
        self.accept(ONE + "\n'a\n'a\n'x\n", 2)

    def test_several_blanks(self):
        self.accept("a   b\na b\nx y\n", 1)
        self.accept("  a b\na b  \n  x    y  \n", 1)

    def test_each_seam(self):
        for seam in "-=~":
            self.accept(f"ab\na{seam}b\nx{seam}y\n", 1)
        self.accept("abcd\na-b=c~d\nx-y=z~w\n", 1)

    def test_bytes_of_every_kind(self):
        odd = "".join([chr(n) for n in range(256) if chr(n) not in " \n-=~"])
        self.accept(f"{odd}\n{odd}\n{odd}\n'{odd}\n", 1)

    def test_a_read_takes_the_place_of_the_one_before(self):
        other = "b c\nb c\ny z\n"
        self.assertEqual(ask(read(ONE), read(other), KNOWN, item(0)), [[1], [1], [2], [2, 1, 1]])

    def test_60_items(self):
        self.accept(many_items(60), 60)

    def test_30_words(self):
        self.accept(many_words(30), 1)

    def test_8_pieces(self):
        self.accept(many_pieces(8), 1)

    def test_6000_bytes(self):
        self.assertEqual(len(sized(6000)), 6000)
        self.accept(sized(6000), 1)


class TooLarge(unittest.TestCase):
    def test_more_than_6000_bytes(self):
        self.assertEqual(ask(read(sized(6001))), [[-1]])
        self.assertEqual(ask(read(sized(7000))), [[-1]])

    def test_ahead_of_a_fault(self):
        self.assertEqual(ask(read("a" * 6001)), [[-1]])
        self.assertEqual(ask(read("\n" * 7000)), [[-1]])

    def test_a_fault_at_6000_bytes(self):
        self.assertEqual(ask(read("a" * 6000)), [[-3, 1, 6000]])

    def test_the_text_stays(self):
        told = ask(read("b\nb\ny\n"), read(sized(6001)), KNOWN, piece(0))
        self.assertEqual(told, [[1], [-1], [1], [1, 0, 1, 98, 1, 121]])


class Faults(unittest.TestCase):
    def refuse(self, kind, place, text):
        self.assertEqual(ask(read(text)), [[-3, kind, place]], repr(text))

    def test_1_the_last_line_is_not_ended(self):
        self.refuse(1, 1, "a")
        self.refuse(1, 1, " ")
        self.refuse(1, 5, "a\na\nx")
        self.refuse(1, 9, ONE + "'so")
        self.refuse(1, 12, ONE + "\na\na\nx")
        self.refuse(1, 7, ONE + "b")

    def test_1_no_three_lines(self):
        self.refuse(1, 1, "\n")
        self.refuse(1, 2, "\n\n")
        self.refuse(1, 2, "a\n")
        self.refuse(1, 4, "a\na\n")
        self.refuse(1, 9, ONE + "\nb\n")
        self.refuse(1, 11, ONE + "\nb\nb\n")
        self.refuse(1, 8, ONE + "\n\n")
        self.refuse(1, 9, ONE + "\n\n\n")
        self.refuse(1, 11, ONE + "\n'so\n")

    def test_1_no_word(self):
        self.refuse(1, 0, "\n\n\n")
        self.refuse(1, 0, "  \na\nx\n")
        self.refuse(1, 0, "\n" + ONE)
        self.refuse(1, 7, ONE + "\n\n" + ONE)
        self.refuse(1, 7, ONE + "\n \na\nx\n")
        self.refuse(1, 7, ONE + "\n\n\n\n")

    def test_1_the_line_behind(self):
        self.refuse(1, 6, ONE + "b\n")
        self.refuse(1, 6, ONE + ONE)
        self.refuse(1, 6, ONE + " \n")
        self.refuse(1, 6, ONE + " \n" + ONE)
        self.refuse(1, 6, ONE + " 'so\n")
        self.refuse(1, 6, ONE + "\n")
        self.refuse(1, 10, ONE + "'so\n'so\n")
        self.refuse(1, 10, ONE + "'so\nb\n")
        self.refuse(1, 10, ONE + "'so\n" + ONE)
        self.refuse(1, 10, ONE + "'so\n\n")
        self.refuse(1, 13, ONE + "\n" + ONE + "\n")

    def test_2_rows_of_the_second_line(self):
        self.refuse(2, 2, "a\n\nx\n")
        self.refuse(2, 2, "a\n  \nx\n")
        self.refuse(2, 2, "a\na a\nx\n")
        self.refuse(2, 5, " a b\n  ab \nx y\n")
        self.refuse(2, 9, ONE + "\na\na a\nx\n")

    def test_3_rows_of_the_third_line(self):
        self.refuse(3, 4, "a\na\n\n")
        self.refuse(3, 4, "a\na\n  \n")
        self.refuse(3, 4, "a\na\nx x\n")
        self.refuse(3, 8, "a b\na b\n  x \n")
        self.refuse(3, 11, ONE + "\na\na\nx x\n")

    def test_4_an_empty_piece(self):
        for seam in "-=~":
            self.refuse(4, 2, f"a\n{seam}a\nx{seam}y\n")
            self.refuse(4, 2, f"a\na{seam}\nx{seam}y\n")
            self.refuse(4, 2, f"a\n{seam}\nx{seam}y\n")
            self.refuse(4, 3, f"ab\na{seam}{seam}b\nx{seam}y\n")
        self.refuse(4, 8, "a b\n a  b- \nx y-z\n")

    def test_4_an_empty_gloss(self):
        for seam in "-=~":
            self.refuse(4, 7, f"ab\na{seam}b\n{seam}y\n")
            self.refuse(4, 7, f"ab\na{seam}b\nx{seam}\n")
            self.refuse(4, 7, f"ab\na{seam}b\n{seam}\n")
            self.refuse(4, 7, f"ab\na{seam}b\nx{seam}{seam}y\n")
        self.refuse(4, 11, "a b\na b\n x y-\n")

    def test_5_other_seams(self):
        self.refuse(5, 7, "ab\na-b\nx\n")
        self.refuse(5, 6, "ab\nab\nx-y\n")
        self.refuse(5, 7, "ab\na-b\nx=y\n")
        self.refuse(5, 7, "ab\na=b\nx~y\n")
        self.refuse(5, 10, "abc\na-b=c\nx=y-z\n")
        self.refuse(5, 10, "abc\na-b-c\nx-y\n")
        self.refuse(5, 11, "a b\na b\n x y-z\n")

    def test_6_another_word(self):
        self.refuse(6, 2, "a\nb\nx\n")
        self.refuse(6, 2, "a\na-b\nx-y\n")
        self.refuse(6, 3, "ab\nb-a\nx-y\n")
        self.refuse(6, 3, "ab\na\nx\n")
        self.refuse(6, 4, "a-b\na-b\nx-y\n")
        self.refuse(6, 7, "a b\n a c\nx y\n")
        self.refuse(6, 9, ONE + "\na\nb\nx\n")

    def test_7_the_61st_item(self):
        self.refuse(7, 420, many_items(61))
        self.refuse(7, 420, many_items(62))
        self.refuse(7, 420, many_items(60) + "\n\n\n\n")
        self.refuse(7, 420, many_items(60) + "\n" + many_words(31))

    def test_7_the_31st_word(self):
        self.refuse(7, 0, many_words(31))
        self.refuse(7, 7, ONE + "\n" + many_words(31))
        self.refuse(7, 0, "  " + many_words(31))

    def test_7_the_9th_piece(self):
        self.refuse(7, 10, many_pieces(9))
        self.refuse(7, 15, "a aaaaaaaaa\n a a-a-a-a-a-a-a-a-a\nx a-a-a-a-a-a-a-a-a\n")


class FirstFault(unittest.TestCase):
    """Texts with two faults or more, of which the earlier one in the document's order counts."""

    def refuse(self, kind, place, text):
        self.assertEqual(ask(read(text)), [[-3, kind, place]], repr(text))

    def test_a_last_line_that_is_not_ended_goes_ahead_of_all(self):
        self.refuse(1, 7, "\na\nx\n'b")
        self.refuse(1, 5, "a\nb\nx")
        self.refuse(1, 425, many_items(61)[:-1])
        self.refuse(1, 185, many_words(31)[:-1])

    def test_missing_lines_go_ahead_of_the_61st_item(self):
        self.refuse(1, 422, many_items(60) + "\na\n")
        self.refuse(1, 424, many_items(60) + "\na\na\n")

    def test_missing_lines_go_ahead_of_no_word(self):
        self.refuse(1, 2, "\n\n")

    def test_the_line_behind_the_60th_item_goes_ahead_of_the_61st(self):
        self.refuse(1, 419, many_items(60) + ONE)
        self.refuse(1, 419, many_items(60) + "\n")

    def test_no_word_goes_ahead_of_the_rows(self):
        self.refuse(1, 0, "\na\nx x\n")

    def test_too_many_words_go_ahead_of_the_rows(self):
        self.refuse(7, 0, "a " * 31 + "\na\nx\n")

    def test_the_second_line_goes_ahead_of_the_third(self):
        self.refuse(2, 2, "a\na a\nx x\n")
        self.refuse(2, 2, "a\n\n\n")

    def test_rows_go_ahead_of_words(self):
        self.refuse(2, 4, "a b\n-c\nx y\n")
        self.refuse(3, 8, "a b\n- c\nx\n")

    def test_pieces_go_ahead_of_glosses(self):
        self.refuse(4, 2, "a\na-\n-\n")

    def test_an_empty_gloss_goes_ahead_of_the_seams(self):
        self.refuse(4, 4, "a\na\nx-\n")

    def test_an_empty_piece_goes_ahead_of_the_seams_and_the_word(self):
        self.refuse(4, 2, "a\nb-\nx\n")

    def test_the_seams_go_ahead_of_the_word(self):
        self.refuse(5, 4, "a\nb\nx-y\n")

    def test_the_word_goes_ahead_of_too_many_pieces(self):
        self.refuse(6, 2, "a\na-a-a-a-a-a-a-a-a\na-a-a-a-a-a-a-a-a\n")

    def test_the_seams_go_ahead_of_too_many_pieces(self):
        self.refuse(5, 28, "aaaaaaaaa\na-a-a-a-a-a-a-a-a\nx\n")

    def test_too_many_pieces_go_ahead_of_the_next_word(self):
        self.refuse(7, 12, "aaaaaaaaa b\na-a-a-a-a-a-a-a-a -\na-a-a-a-a-a-a-a-a -\n")

    def test_all_of_a_word_goes_ahead_of_the_next(self):
        self.refuse(6, 4, "a b\nc -\nx -\n")
        self.refuse(5, 8, "a b\na -\nx-y -\n")
        self.refuse(4, 8, "a b\na -\nx- -\n")

    def test_words_go_ahead_of_the_line_behind(self):
        self.refuse(6, 2, "a\nb\nx\nc\n")
        self.refuse(6, 2, "a\nb\nx\n\n")

    def test_an_item_goes_ahead_of_the_next(self):
        self.refuse(1, 6, ONE + "b\n\n\n")
        self.refuse(6, 2, "a\nb\nx\n\n\n")
        self.refuse(6, 2, "a\nb\nx\n\n" + many_items(61))


class RefusedRead(unittest.TestCase):
    def test_the_text_stays_as_it_was(self):
        good = "ab c\na-b c\nx-y z\n'so\n\n" + ONE
        refused = ["a", "\n", "\n\n\n", many_items(61), many_words(31), "a\n\nx\n", "a\na\n\n", "a\na-\nx\n",
                   "a\na\nx-\n", "a\na\nx-y\n", "a\nb\nx\n", many_pieces(9), ONE + "\n", ONE + "\na\nb\nx\n"]
        after = [SAID, KNOWN, item(0), item(1), item(2), piece(2), piece(3)]
        before = ask(read(good), *after)[1:]
        self.assertEqual(before[1:4], [[3], [2, 2, 1], [1, 1]])
        for text in refused:
            told = ask(read(good), read(text), *after)
            self.assertEqual(told[1][0], -3, repr(text))
            self.assertEqual(told[2:], before, repr(text))

    def test_the_empty_text_stays_empty(self):
        told = ask(read("a\nb\nx\n"), SAID, KNOWN, item(0), piece(0))
        self.assertEqual(told, [[-3, 6, 2], [0], [0], [-2], [-2]])


class SaidIsReadAsTheSame(unittest.TestCase):
    def test_known_pieces_and_said_stay(self):
        texts = ["", ONE, many_items(60), many_words(30), many_pieces(8), sized(6000),
                 "  ab   c \n a-b c\nlong-y z  \n'  so  \n\n" + ONE + "'\n\n'q\n'q\n'\n"]
        for text in texts:
            again = said_of(text)
            self.assertEqual(said_of(again), again)
            self.assertEqual(pieces_of(again), pieces_of(text))
            self.assertEqual(ask(read(again)), ask(read(text)))


if __name__ == "__main__":
    unittest.main()
