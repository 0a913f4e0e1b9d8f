import unittest

from helper import BEGINS, ONE, SAID, ask, read, said_of


class Said(unittest.TestCase):
    def test_how_many_bytes_then_they(self):
        self.assertEqual(ask(read(ONE), SAID)[1], [6, 97, 10, 97, 10, 120, 10])

    def test_the_empty_text(self):
        self.assertEqual(ask(SAID), [[0]])
        self.assertEqual(ask(read(""), SAID), [[0], [0]])
        self.assertEqual(ask(read(ONE), BEGINS, SAID), [[1], [0], [0]])

    def test_a_column_is_as_wide_as_its_word(self):
        text = "".join(["longer b\n", "longer b\n", "x y\n"])
        self.assertEqual(said_of(text), "longer b\nlonger b\nx      y\n")

    def test_a_column_is_as_wide_as_its_pieces(self):
        self.assertEqual(said_of("abc d\na-b-c d\n1-2-3 y\n"), "abc   d\na-b-c d\n1-2-3 y\n")
        self.assertEqual(said_of("abc d\nab-c d\n1-2 y\n"), "abc  d\nab-c d\n1-2  y\n")

    def test_a_column_is_as_wide_as_its_gloss(self):
        self.assertEqual(said_of("a b\na b\nmeaning y\n"), "a       b\na       b\nmeaning y\n")

    def test_each_column_has_its_own_width(self):
        text = "dogs bark loudly\ndog-s bark loud-ly\ndog-PL bark.PRS loud-ADV\n"
        told = "dogs   bark     loudly\ndog-s  bark     loud-ly\ndog-PL bark.PRS loud-ADV\n"
        self.assertEqual(said_of(text), told)

    def test_the_last_row_of_a_line_is_not_filled(self):
        self.assertEqual(said_of("a\na\nmeaning\n"), "a\na\nmeaning\n")
        self.assertEqual(said_of("a bcd\na b-cd\nx y-meaning\n"), "a bcd\na b-cd\nx y-meaning\n")
        self.assertEqual(said_of("a  \na \nmeaning   \n"), "a\na\nmeaning\n")

    def test_blanks_at_the_ends_and_between_are_not_kept(self):
        self.assertEqual(said_of("   a    b  \n a  b\nx        y \n"), "a b\na b\nx y\n")

    def test_the_line_with_a_quote_is_said_as_it_stands(self):
        self.assertEqual(said_of(ONE + "'  so - it  is \n"), ONE + "'  so - it  is \n")
        self.assertEqual(said_of(ONE + "'\n"), ONE + "'\n")

    def test_a_long_line_with_a_quote_widens_no_column(self):
        text = "a b\na b\nx y\n'a long line\n"
        self.assertEqual(said_of(text), text)

    def test_empty_lines_between_items(self):
        self.assertEqual(said_of(ONE + "\n" + ONE), ONE + "\n" + ONE)
        text = ONE + "'so\n\n" + ONE + "\n" + ONE + "'\n"
        self.assertEqual(said_of(text), text)

    def test_each_item_has_its_own_columns(self):
        text = "a b\na b\nmeaning y\n\na b\na b\nx y\n"
        self.assertEqual(said_of(text), "a       b\na       b\nmeaning y\n\na b\na b\nx y\n")

    def test_each_seam_is_said_as_it_stands(self):
        text = "abcd e\na-b=c~d e\nw-x=y~z v\n"
        self.assertEqual(said_of(text), "abcd    e\na-b=c~d e\nw-x=y~z v\n")

    def test_said_twice_is_the_same(self):
        text = " a  b \na b\nmeaning y\n"
        told = ask(read(text), SAID, SAID)
        self.assertEqual(told[1], told[2])

    def test_said_may_be_longer_than_a_text_that_is_read(self):
        wide = "x" * 3000
        text = f"a b\na b\n{wide} y\n"
        self.assertEqual(len(said_of(text)), 3 * 3003)


if __name__ == "__main__":
    unittest.main()
