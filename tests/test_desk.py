import unittest

from glossrows.desk import answers
from helper import BEGINS, KNOWN, ONE, SAID, ask, item, joined, piece, read, sized


class Desk(unittest.TestCase):
    def test_calls_and_answers_as_they_are_written(self):
        self.assertEqual(answers([0, 0, 0]), [1, 0])
        self.assertEqual(answers([1, 0, 0]), [1, 0])
        self.assertEqual(answers([1, 2, 97, 10, 0]), [3, -3, 1, 2])
        self.assertEqual(answers([1, 6, 97, 10, 97, 10, 120, 10, 0]), [1, 1])
        self.assertEqual(answers([2, 0, 0]), [1, 0])
        self.assertEqual(answers([3, 1, 0, 0]), [1, -2])
        self.assertEqual(answers([4, 0, 0]), [1, 0])
        self.assertEqual(answers([5, 1, 0, 0]), [1, -2])

    def test_several_calls_one_behind_another(self):
        calls = [1, 6, 97, 10, 97, 10, 120, 10, 0, 2, 0, 0, 3, 1, 0, 0, 4, 0, 0, 5, 1, 0, 0, 3, 1, 1, 0,
                 1, 1, 97, 0, 0, 0, 0, 4, 0, 0]
        told = [1, 1, 7, 6, 97, 10, 97, 10, 120, 10, 2, 1, 1, 1, 1, 6, 1, 0, 1, 97, 1, 120, 1, -2,
                3, -3, 1, 1, 1, 0, 1, 0]
        self.assertEqual(answers(calls), told)

    def test_a_refusal_stands_alone(self):
        self.assertEqual(answers(joined([read(sized(6001)), item(0), piece(0)])), [1, -1, 1, -2, 1, -2])

    def test_100_calls(self):
        told = ask(read(ONE), *[KNOWN, item(0), SAID] * 33)
        self.assertEqual(told, [[1]] + [[1], [1, 1], [6, *ONE.encode()]] * 33)

    def test_as_many_numbers_as_may_be_handed_in(self):
        calls = joined([read(sized(6000))] * 4 + [read(sized(5980)), SAID])
        self.assertLessEqual(len(calls), 30000)
        told = answers(calls)
        self.assertEqual(told[:12], [1, 1] * 5 + [5981, 5980])

    def test_many_lines_and_many_rows(self):
        self.assertEqual(ask(read("\n" * 6000)), [[-3, 1, 0]])
        self.assertEqual(ask(read("a " * 2999 + "a\n")), [[-3, 1, 6000]])
        self.assertEqual(ask(read("a\n" + "-" * 5994 + "\nx\n")), [[-3, 4, 2]])

    def test_what_is_handed_in_stays_as_it_was(self):
        calls = joined([read(" ab  c\na-b c \nx-y z\n'so\n\n" + ONE), SAID, item(0), KNOWN, piece(1), piece(9),
                        read("a"), read(sized(6001)), BEGINS, SAID])
        before = list(calls)
        answers(calls)
        self.assertEqual(calls, before)

    def test_what_is_given_back_is_new_each_time(self):
        calls = joined([read(ONE), SAID, item(0), piece(0)])
        first = answers(calls)
        kept = list(first)
        first.clear()
        self.assertEqual(answers(calls), kept)

    def test_nothing_is_kept_from_one_time_to_the_next(self):
        calls = joined([SAID, KNOWN, item(0), piece(0)])
        fresh = answers(calls)
        answers(joined([read(ONE)]))
        self.assertEqual(answers(calls), fresh)
        self.assertEqual(fresh, [1, 0, 1, 0, 1, -2, 1, -2])

    def test_how_often_a_piece_comes_is_not_kept_either(self):
        calls = joined([read(ONE), piece(0)])
        self.assertEqual(answers(calls), answers(calls))
        self.assertEqual(ask(read(ONE), read(ONE), piece(0))[2], [1, 0, 1, 97, 1, 120])

    def test_whole_numbers_in_a_list(self):
        told = answers(joined([BEGINS, read(ONE), SAID, item(0), KNOWN, piece(0), piece(1), read("a")]))
        self.assertIs(type(told), list)
        self.assertEqual({type(number) for number in told}, {int})


if __name__ == "__main__":
    unittest.main()
