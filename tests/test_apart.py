"""Words taken apart in all the ways that the text knows."""

import itertools
import unittest

from helper import BEGINS, KNOWN, LARGEST, ONE, apart, ask, many_pieces, piece, pieces_of, promptly, read, rows_in

# 0: a x; 1: -a x; 2: =b y; 3: ab z; 4: ~a w; 5: b y; 6: -ba v; 7: a q
TEXT = "aab ab aa\na-a=b ab a~a\nx-x=y z x~w\n\nbba a\nb-ba a\ny-v q\n"

# 0: a x; 1: -a x
CHAIN = "aa\na-a\nx-x\n"


def apart_of(text, most, word):
    return rows_in(ask(read(text), apart(most, word))[1])


def every_row(text, longest):
    """All rows of known pieces for each word of so many bytes at the most, by going through all that there are."""
    pieces = pieces_of(text)
    found = {}
    for size in range(1, longest + 1):
        for row in itertools.product(range(len(pieces)), repeat=size):
            seams = [pieces[number][1] for number in row]
            word = "".join([pieces[number][2] for number in row])
            if seams[0] == 0 and 0 not in seams[1:] and len(word) <= longest:
                found.setdefault(word, []).append(list(row))
    return {word: sorted(rows) for word, rows in found.items()}


class Rows(unittest.TestCase):
    def test_the_text_has_these_known_pieces(self):
        self.assertEqual(pieces_of(TEXT), [(2, 0, "a", "x"), (1, 45, "a", "x"), (1, 61, "b", "y"), (1, 0, "ab", "z"),
                                           (1, 126, "a", "w"), (1, 0, "b", "y"), (1, 45, "ba", "v"), (1, 0, "a", "q")])

    def test_how_it_is_written_and_answered(self):
        self.assertEqual(ask(read(TEXT), [9, 3, 5, 97, 98, 0])[1], [3, 2, 0, 2, 1, 3, 2, 7, 2])
        self.assertEqual(ask(read(ONE), apart(20, "a"))[1], [1, 1, 0])

    def test_in_order_by_the_first_number_in_which_they_differ(self):
        self.assertEqual(apart_of(TEXT, 20, "aba"), (8, [[0, 2, 1], [0, 2, 4], [0, 6], [3, 1], [3, 4], [7, 2, 1],
                                                         [7, 2, 4], [7, 6]]))
        self.assertEqual(apart_of(TEXT, 20, "aa"), (4, [[0, 1], [0, 4], [7, 1], [7, 4]]))

    def test_numbers_of_two_digits_are_in_order_as_numbers(self):
        words = " ".join("abcdefghi") + " jkk"
        text = f"{words}\n{words[:-3]}j-k-k\n{words[:-3]}1-2-3\n\nja\nja\n4\n\nj\nj\n5\n"
        self.assertEqual(apart_of(text, 20, "jk"), (4, [[9, 10], [9, 11], [13, 10], [13, 11]]))

    def test_a_shorter_piece_with_a_higher_number_comes_later(self):
        text = "aab\na-ab\nx-y\n\naa b\na-a b\nx-x z\n\nab\na-b\nx-z\n"
        self.assertEqual(apart_of(text, 20, "aab"), (2, [[0, 1], [0, 2, 4]]))

    def test_against_all_rows_that_there_are(self):
        for text in (TEXT, CHAIN, ONE, "aab ba\na-a-b b=a\nx-y-z p=q\n\nabab ab b\na-b~ab ab b\n1-2~3 4 p\n"):
            rows = every_row(text, 5)
            for size in range(6):
                for signs in itertools.product("abc", repeat=size):
                    word = "".join(signs)
                    wanted = rows.get(word, [])
                    for most in (0, 1, 2, 5, 19, 20):
                        self.assertEqual(apart_of(text, most, word), (len(wanted), wanted[:most]), (text, word, most))


class First(unittest.TestCase):
    def test_only_the_first_piece_has_the_seam_0(self):
        self.assertEqual(apart_of("a b\na b\nx y\n", 20, "ab"), (0, []))
        self.assertEqual(apart_of("ab\na-b\nx-y\n", 20, "ab"), (1, [[0, 1]]))

    def test_the_first_piece_has_it(self):
        self.assertEqual(apart_of("ab\na-b\nx-y\n", 20, "b"), (0, []))
        self.assertEqual(apart_of("ab\na-b\nx-y\n", 20, "ba"), (0, []))
        self.assertEqual(apart_of("ab\na-b\nx-y\n", 20, "bb"), (0, []))

    def test_any_other_seam_is_the_same_to_it(self):
        self.assertEqual(apart_of("abcd\na-b=c~d\n1-2=3~4\n", 20, "adcb"), (1, [[0, 3, 2, 1]]))

    def test_pieces_of_the_same_form_that_differ_by_the_seam(self):
        text = "baaa\nb-a=a~a\ny-x=x~x\n"
        self.assertEqual(apart_of(text, 20, "ba"), (3, [[0, 1], [0, 2], [0, 3]]))

    def test_pieces_of_the_same_form_that_differ_by_the_gloss(self):
        text = "ba ba b\nb-a b-a b\ny-1 y-2 z\n"
        self.assertEqual(apart_of(text, 20, "ba"), (4, [[0, 1], [0, 2], [3, 1], [3, 2]]))

    def test_a_piece_may_come_again(self):
        self.assertEqual(apart_of(CHAIN, 20, "aaaa"), (1, [[0, 1, 1, 1]]))

    def test_more_than_8_pieces(self):
        self.assertEqual(apart_of(CHAIN, 20, "a" * 9), (1, [[0] + [1] * 8]))
        self.assertEqual(apart_of(CHAIN, 20, "a" * 40), (1, [[0] + [1] * 39]))

    def test_a_word_of_the_text_in_ways_that_it_does_not_have(self):
        self.assertEqual(apart_of("ab a cb\nab a c-b\nx y z-w\n", 20, "ab"), (2, [[0], [1, 3]]))


class NoRows(unittest.TestCase):
    def test_bytes_that_no_piece_has(self):
        self.assertEqual(apart_of(TEXT, 20, "c"), (0, []))
        self.assertEqual(apart_of(TEXT, 20, "abc"), (0, []))
        self.assertEqual(apart_of(TEXT, 20, "cab"), (0, []))
        self.assertEqual(apart_of(TEXT, 20, "a-a"), (0, []))

    def test_a_part_of_a_form(self):
        self.assertEqual(apart_of("abc\nabc\nx\n", 20, "ab"), (0, []))
        self.assertEqual(apart_of("abc\nabc\nx\n", 20, "bc"), (0, []))
        self.assertEqual(apart_of("abc\nabc\nx\n", 20, "abcd"), (0, []))

    def test_a_gloss_is_no_form(self):
        self.assertEqual(apart_of(ONE, 20, "x"), (0, []))

    def test_the_empty_word(self):
        for most in (0, 1, 20):
            self.assertEqual(ask(read(TEXT), apart(most, ""))[1], [0])
            self.assertEqual(ask(apart(most, "")), [[0]])

    def test_the_empty_text(self):
        self.assertEqual(ask(apart(20, "a"), apart(0, "a" * 40)), [[0], [0]])
        self.assertEqual(ask(read(ONE), BEGINS, apart(20, "a")), [[1], [0], [0]])

    def test_known_anew_with_each_text(self):
        self.assertEqual(ask(read(ONE), read("b\nb\nx\n"), apart(20, "a"), apart(20, "b"))[2:], [[0], [1, 1, 0]])


class HowMany(unittest.TestCase):
    def test_none_wanted(self):
        self.assertEqual(ask(read(TEXT), apart(0, "aba"))[1], [8])

    def test_fewer_rows_than_wanted(self):
        self.assertEqual(apart_of(TEXT, 20, "aa"), apart_of(TEXT, 4, "aa"))
        self.assertEqual(len(apart_of(TEXT, 5, "aa")[1]), 4)

    def test_more_rows_than_wanted(self):
        amount, rows = apart_of(TEXT, 20, "aba")
        for most in range(9):
            self.assertEqual(apart_of(TEXT, most, "aba"), (amount, rows[:most]))

    def test_more_rows_than_20(self):
        text = "aaa aaa\na-a-a a=a~a\n1-2-3 4=5~6\n"
        amount, rows = apart_of(text, 20, "aaa")
        self.assertEqual(amount, 2 * 4 * 4)
        self.assertEqual(rows, [[first, second, third] for first in (0, 3) for second in (1, 2, 4, 5)
                                for third in (1, 2, 4, 5)][:20])

    def test_very_many_rows(self):
        # Of the form a 7 pieces that aren't a word's first: 7 ** 39 rows, far more than 4294967295.
        text = "aaaaaaaa\na-a-a-a-a-a-a-a\n0-1-2-3-4-5-6-7\n"
        with promptly():
            amount, rows = apart_of(text, 20, "a" * 40)
        self.assertEqual(amount, 7 ** 39)
        tails = [[one, two] for one in range(1, 8) for two in range(1, 8)]
        self.assertEqual(rows, [[0] + [1] * 37 + tail for tail in tails[:20]])

    def test_just_above_the_largest_number_that_is_handed_in(self):
        # Each of 32 bytes behind the first is made by either of two pieces.
        text = "baa\nb-a=a\ny-x=x\n"
        self.assertEqual(ask(read(text), apart(0, "b" + "a" * 32))[1], [LARGEST + 1])

    def test_pieces_of_many_sizes(self):
        words = [f"b{'a' * size}" for size in range(1, 21)]
        text = (" ".join(words) + "\n" + " ".join([f"b-{word[1:]}" for word in words]) + "\n"
                + " ".join(["y-x"] * 20) + "\n")
        # Forms of 1 to 20 bytes; so many ways there are to make 39 bytes of such.
        ways = [1]
        for size in range(1, 40):
            ways.append(sum(ways[max(0, size - 20):size]))
        with promptly():
            amount, rows = apart_of(text, 20, "b" + "a" * 39)
        self.assertEqual(amount, ways[39])
        self.assertEqual(rows[0], [0] + [1] * 39)
        self.assertEqual(rows[1], [0] + [1] * 37 + [2])
        self.assertEqual(rows, sorted(rows))
        self.assertEqual(len(rows), 20)

    def test_many_beginnings_and_no_end(self):
        text = many_pieces(8) + "\naaaaaaa\naa=a~a-aaa\n1=2~3-4\n\nb\nb\ny\n"
        with promptly():
            told = ask(read(text), *[apart(20, "a" * 39 + sign) for sign in "bc"] * 49)
        self.assertEqual(told[1:], [[0]] * 98)

    def test_an_end_and_no_beginning(self):
        with promptly():
            self.assertEqual(apart_of(many_pieces(8), 20, "b" + "a" * 39), (0, []))

    def test_many_beginnings_of_which_some_have_an_end(self):
        # The last c is made by -ac alone: what makes all bytes ahead of it can't be ended.
        text = "aaaaaaa\na-a-a-a-a-a-a\n1-2-3-4-5-6-7\n\naac\na-ac\n1-9\n\n" + "a" * 39 + "\n" + "a" * 39 + "\n8\n"
        with promptly():
            amount, rows = apart_of(text, 2, "a" * 39 + "c")
        self.assertEqual(amount, 6 ** 37)
        self.assertEqual(rows, [[0] + [1] * 37 + [7], [0] + [1] * 36 + [2, 7]])

    def test_many_such_calls(self):
        text = "aaaaaaaa\na-a-a-a-a-a-a-a\n0-1-2-3-4-5-6-7\n"
        with promptly():
            told = ask(read(text), *[apart(20, "a" * 40)] * 99)
        self.assertEqual(told[1:], [told[1]] * 99)


class Refused(unittest.TestCase):
    def test_m_above_20(self):
        self.assertEqual(ask(read(ONE), apart(20, "a"), apart(21, "a"), apart(LARGEST, "a"), apart(21, ""))[1:],
                         [[1, 1, 0], [-1], [-1], [-1]])

    def test_a_word_of_more_than_40_bytes(self):
        told = ask(read(CHAIN), apart(1, "a" * 40), apart(0, "a" * 41), apart(20, "a" * 41), apart(0, "a" * 100))
        self.assertEqual(told[1:], [[1, 40, 0] + [1] * 39, [-1], [-1], [-1]])

    def test_both(self):
        self.assertEqual(ask(read(CHAIN), apart(21, "a" * 41), apart(LARGEST, "b" * 100))[1:], [[-1], [-1]])

    def test_of_the_empty_text_too(self):
        self.assertEqual(ask(apart(21, "a"), apart(0, "a" * 41), apart(20, "a" * 40)), [[-1], [-1], [0]])

    def test_a_word_of_the_text_with_more_than_40_bytes(self):
        long = "a" * 41
        self.assertEqual(ask(read(f"{long}\n{long}\nx\n"), apart(1, long), apart(1, long[1:]))[1:], [[-1], [0]])

    def test_nothing_is_changed(self):
        after = [KNOWN, piece(0), apart(20, "aba")]
        before = ask(read(TEXT), *after)[1:]
        self.assertEqual(ask(read(TEXT), apart(21, "a"), apart(0, "a" * 41), *after)[3:], before)


if __name__ == "__main__":
    unittest.main()
