"""What stands where."""

import itertools
import re
import unittest

from helper import (BEGINS, KNOWN, LARGEST, ONE, ask, call, find, many_items, piece, places_in, promptly, read, step)

# The words of the first item: 0 dogs, 1 bark, 2 at, 3 dogs; of the second: 0 bark, 1 barked, 2 cat.
TEXT = ("dogs bark at dogs\ndog-s bark at dog=s\ndog-PL bark.PRS at dog=POSS\n'Dogs bark at dogs.\n\n"
        "bark barked cat\nbark bark-ed cat\ncry cry-PST.IND PL\n")

WRITTEN, FORM, GLOSS, PART, FIRST, LAST, NONE = range(7)


def found(text, *steps):
    return places_in(ask(read(text), find(*steps))[1])


def words_of(*items):
    """A text of words of one piece, each glossed by itself; an item is told as its words, parted by blanks."""
    return "\n".join([f"{words}\n" * 3 for words in items])


def at_words(*places):
    """Places of one step, which ends where it begins."""
    return [(item, word, word) for item, word in places]


EVERYWHERE = [(0, 0), (0, 1), (0, 2), (0, 3), (1, 0), (1, 1), (1, 2)]


class Kinds(unittest.TestCase):
    def where(self, kind, wanted, *places):
        self.assertEqual(found(TEXT, step(0, (kind, wanted))), at_words(*places), (kind, wanted))

    def test_how_it_is_written_and_answered(self):
        self.assertEqual(ask(read(TEXT), [10, 7, 1, 0, 1, 0, 2, 97, 116, 0])[1], [1, 0, 2, 2])
        self.assertEqual(ask(read(TEXT), find(step(0, (WRITTEN, "bark"))))[1], [2, 0, 1, 1, 1, 0, 0])

    def test_0_it_is_written_so(self):
        self.where(WRITTEN, "dogs", (0, 0), (0, 3))
        self.where(WRITTEN, "bark", (0, 1), (1, 0))
        self.where(WRITTEN, "barked", (1, 1))
        self.where(WRITTEN, "bark-ed")
        self.where(WRITTEN, "dog")
        self.where(WRITTEN, "Dogs")
        self.where(WRITTEN, "cry")

    def test_1_a_form(self):
        self.where(FORM, "dog", (0, 0), (0, 3))
        self.where(FORM, "s", (0, 0), (0, 3))
        self.where(FORM, "bark", (0, 1), (1, 0), (1, 1))
        self.where(FORM, "ed", (1, 1))
        self.where(FORM, "dogs")
        self.where(FORM, "PL")

    def test_2_a_gloss(self):
        self.where(GLOSS, "PL", (0, 0), (1, 2))
        self.where(GLOSS, "dog", (0, 0), (0, 3))
        self.where(GLOSS, "cry", (1, 0), (1, 1))
        self.where(GLOSS, "bark.PRS", (0, 1))
        self.where(GLOSS, "PST.IND", (1, 1))
        self.where(GLOSS, "PST")
        self.where(GLOSS, "bark")

    def test_3_a_part_of_a_gloss(self):
        self.where(PART, "PST", (1, 1))
        self.where(PART, "IND", (1, 1))
        self.where(PART, "bark", (0, 1))
        self.where(PART, "PRS", (0, 1))
        self.where(PART, "PL", (0, 0), (1, 2))
        self.where(PART, "bark.PRS")
        self.where(PART, ".PRS")
        self.where(PART, "PR")
        self.where(PART, "")

    def test_4_the_first_gloss(self):
        self.where(FIRST, "PL", (1, 2))
        self.where(FIRST, "dog", (0, 0), (0, 3))
        self.where(FIRST, "cry", (1, 0), (1, 1))
        self.where(FIRST, "PST.IND")
        self.where(FIRST, "bark")

    def test_5_the_last_gloss(self):
        self.where(LAST, "PL", (0, 0), (1, 2))
        self.where(LAST, "cry", (1, 0))
        self.where(LAST, "PST.IND", (1, 1))
        self.where(LAST, "dog")
        self.where(LAST, "PST")

    def test_4_and_5_of_three_pieces(self):
        text = "abc\na-b-c\nx-y-z\n"
        self.assertEqual([found(text, step(0, (FIRST, gloss))) for gloss in "xyz"], [[(0, 0, 0)], [], []])
        self.assertEqual([found(text, step(0, (LAST, gloss))) for gloss in "xyz"], [[], [], [(0, 0, 0)]])
        self.assertEqual([found(text, step(0, (GLOSS, gloss))) for gloss in "xyz"], [[(0, 0, 0)]] * 3)
        self.assertEqual([found(text, step(0, (NONE, gloss))) for gloss in "xyzw"], [[], [], [], [(0, 0, 0)]])

    def test_6_none_has_the_gloss(self):
        self.where(NONE, "PL", (0, 1), (0, 2), (0, 3), (1, 0), (1, 1))
        self.where(NONE, "cry", (0, 0), (0, 1), (0, 2), (0, 3), (1, 2))
        self.where(NONE, "PST.IND", (0, 0), (0, 1), (0, 2), (0, 3), (1, 0), (1, 2))
        self.where(NONE, "PST", *EVERYWHERE)
        self.where(NONE, "s", *EVERYWHERE)

    def test_nothing_is_empty(self):
        for kind in (WRITTEN, FORM, GLOSS, PART, FIRST, LAST):
            self.where(kind, "")
        self.where(NONE, "", *EVERYWHERE)

    def test_nothing_wanted(self):
        self.assertEqual(found(TEXT, step(0)), at_words(*EVERYWHERE))
        self.assertEqual(found(many_items(60), step(0)), [(item, 0, 0) for item in range(60)])

    def test_several_together(self):
        self.assertEqual(found(TEXT, step(0, (WRITTEN, "dogs"), (GLOSS, "PL"))), [(0, 0, 0)])
        self.assertEqual(found(TEXT, step(0, (WRITTEN, "dogs"), (NONE, "PL"))), [(0, 3, 3)])
        self.assertEqual(found(TEXT, step(0, (NONE, "PL"), (WRITTEN, "dogs"))), [(0, 3, 3)])
        self.assertEqual(found(TEXT, step(0, (FORM, "bark"), (FIRST, "cry"), (PART, "IND"), (LAST, "PST.IND"))),
                         [(1, 1, 1)])
        self.assertEqual(found(TEXT, step(0, (FORM, "bark"), (FIRST, "cry"), (PART, "IND"), (LAST, "PST"))), [])
        self.assertEqual(found(TEXT, step(0, (GLOSS, "PL"), (GLOSS, "dog"))), [(0, 0, 0)])
        self.assertEqual(found(TEXT, step(0, (GLOSS, "PL"), (NONE, "PL"))), [])
        self.assertEqual(found(TEXT, step(0, (NONE, "PL"), (NONE, "cry"), (NONE, "at"))), at_words((0, 1), (0, 3)))

    def test_a_form_and_a_gloss_may_be_of_two_pieces(self):
        self.assertEqual(found(TEXT, step(0, (FORM, "dog"), (GLOSS, "PL"))), [(0, 0, 0)])

    def test_all_seven_kinds_in_two_steps(self):
        first = step(0, (WRITTEN, "bark"), (FORM, "bark"), (GLOSS, "cry"), (NONE, "PST.IND"))
        second = step(0, (PART, "PST"), (FIRST, "cry"), (LAST, "PST.IND"))
        self.assertEqual(found(TEXT, first, second), [(1, 0, 1)])

    def test_100_bytes(self):
        long = "a" * 100
        text = f"{long} b\n{long} b\n{long} y\n"
        for kind in range(6):
            self.assertEqual(found(text, step(0, (kind, long))), [(0, 0, 0)])
            self.assertEqual(found(text, step(0, (kind, "c" * 100))), [])
        self.assertEqual(found(text, step(0, (NONE, long))), [(0, 1, 1)])

    def test_bytes_of_every_kind(self):
        odd = "".join([chr(n) for n in range(256) if chr(n) not in " \n-=~."])
        one, two = odd[:100], odd[100:200]
        text = f"{one} {two}\n{one} {two}\n{one} {two}\n"
        for kind in range(6):
            self.assertEqual(found(text, step(0, (kind, two))), [(0, 1, 1)])


class Dots(unittest.TestCase):
    """Kind 3: a gloss is parted at each of its dots, whatever stands beside it."""

    # Glosses: 0 .x; 1 x.; 2 x..y; 3 .; 4 x; 5 y.x.z; 6 two pieces, y and .
    TEXT = "a b c d e f gh\na b c d e f g-h\n.x x. x..y . x y.x.z y-.\n"

    def where(self, wanted, *words):
        self.assertEqual(found(self.TEXT, step(0, (PART, wanted))), at_words(*[(0, word) for word in words]))

    def test_a_part_beside_dots(self):
        self.where("x", 0, 1, 2, 4, 5)
        self.where("y", 2, 5, 6)
        self.where("z", 5)

    def test_an_empty_part(self):
        self.where("", 0, 1, 2, 3, 6)

    def test_what_has_a_dot_is_no_part(self):
        for wanted in (".", ".x", "x.", "x..y", "y.x", "y.x.z", ".."):
            self.where(wanted)

    def test_the_other_kinds_take_a_gloss_whole(self):
        self.assertEqual(found(self.TEXT, step(0, (GLOSS, "x"))), [(0, 4, 4)])
        self.assertEqual(found(self.TEXT, step(0, (GLOSS, "."))), [(0, 3, 3), (0, 6, 6)])
        self.assertEqual(found(self.TEXT, step(0, (FIRST, ".x"))), [(0, 0, 0)])
        self.assertEqual(found(self.TEXT, step(0, (LAST, "."))), [(0, 3, 3), (0, 6, 6)])
        self.assertEqual(found(self.TEXT, step(0, (NONE, "x"))), at_words(*[(0, at) for at in (0, 1, 2, 3, 5, 6)]))

    def test_dots_of_a_form_part_nothing(self):
        self.assertEqual(found("a.b\na.b\nx\n", step(0, (PART, "a"))), [])
        self.assertEqual(found("a.b\na.b\nx\n", step(0, (FORM, "a"))), [])
        self.assertEqual(found("a.b\na.b\nx\n", step(0, (FORM, "a.b"))), [(0, 0, 0)])


def word(gap, written):
    return step(gap, (WRITTEN, written))


class Steps(unittest.TestCase):
    def test_two_steps_with_gaps(self):
        text = words_of("a x b b")
        self.assertEqual(found(text, word(0, "a"), word(0, "b")), [])
        self.assertEqual(found(text, word(0, "a"), word(1, "b")), [(0, 0, 2)])
        self.assertEqual(found(text, word(0, "a"), word(2, "b")), [(0, 0, 2)])
        self.assertEqual(found(text, word(0, "a"), word(30, "b")), [(0, 0, 2)])
        self.assertEqual(found(text, word(0, "x"), word(0, "b")), [(0, 1, 2)])
        self.assertEqual(found(text, word(0, "b"), word(0, "b")), [(0, 2, 3)])

    def test_behind_it_and_not_the_word_itself(self):
        text = words_of("b a")
        self.assertEqual(found(text, word(0, "a"), word(30, "b")), [])
        self.assertEqual(found(text, word(0, "a"), word(30, "a")), [])
        self.assertEqual(found(text, word(0, "b"), word(30, "a")), [(0, 0, 1)])

    def test_the_widest_gap(self):
        text = words_of("a" + " x" * 28 + " b")
        self.assertEqual(found(text, word(0, "a"), word(28, "b")), [(0, 0, 29)])
        self.assertEqual(found(text, word(0, "a"), word(27, "b")), [])
        self.assertEqual(found(text, word(0, "a"), word(30, "b")), [(0, 0, 29)])

    def test_three_and_four_steps(self):
        text = words_of("a b c d", "a b x c d", "a x b c x d")
        self.assertEqual(found(text, word(0, "a"), word(0, "b"), word(0, "c")), [(0, 0, 2)])
        self.assertEqual(found(text, word(0, "a"), word(0, "b"), word(1, "c")), [(0, 0, 2), (1, 0, 3)])
        four = [word(0, "a"), word(1, "b"), word(1, "c"), word(1, "d")]
        self.assertEqual(found(text, *four), [(0, 0, 3), (1, 0, 4), (2, 0, 5)])
        four = [word(0, "a"), word(1, "b"), word(0, "c"), word(1, "d")]
        self.assertEqual(found(text, *four), [(0, 0, 3), (2, 0, 5)])

    def test_a_gap_is_that_before_its_own_step(self):
        text = words_of("a b x c")
        self.assertEqual(found(text, word(0, "a"), word(0, "b"), word(1, "c")), [(0, 0, 3)])
        self.assertEqual(found(text, word(0, "a"), word(1, "b"), word(0, "c")), [])
        self.assertEqual(found(text, word(1, "a"), word(0, "b"), word(0, "c")), [])

    def test_the_gap_of_the_first_step_counts_for_nothing(self):
        text = words_of("x a b", "a x b")
        for gap in (0, 1, 2, 30):
            self.assertEqual(found(text, word(gap, "a")), [(0, 1, 1), (1, 0, 0)])
            self.assertEqual(found(text, word(gap, "a"), word(0, "b")), [(0, 1, 2)])
            self.assertEqual(found(text, word(gap, "a"), word(1, "b")), [(0, 1, 2), (1, 0, 2)])

    def test_steps_that_want_nothing(self):
        text = words_of("a b c")
        self.assertEqual(found(text, step(0), step(0)), [(0, 0, 1), (0, 1, 2)])
        self.assertEqual(found(text, step(0), step(30), step(30)), [(0, 0, 2)])
        self.assertEqual(found(text, step(0), step(30), step(30), step(30)), [])

    def test_words_of_another_item_are_never_taken(self):
        text = words_of("a", "b", "a x", "b a", "b")
        self.assertEqual(found(text, word(0, "a"), word(30, "b")), [])
        self.assertEqual(found(text, word(0, "b"), word(30, "a")), [(3, 0, 1)])

    def test_places_by_items_then_by_words(self):
        text = words_of("b a a", "a b", "b", "a a a")
        self.assertEqual(found(text, word(0, "a")), at_words((0, 1), (0, 2), (1, 0), (3, 0), (3, 1), (3, 2)))
        self.assertEqual(found(text, word(0, "a"), step(0)), [(0, 1, 2), (1, 0, 1), (3, 0, 1), (3, 1, 2)])

    def test_several_places_may_have_one_end(self):
        self.assertEqual(found(words_of("a a b"), word(0, "a"), word(30, "b")), [(0, 0, 2), (0, 1, 2)])

    def test_many_items(self):
        self.assertEqual(found(many_items(60), word(0, "a")), [(item, 0, 0) for item in range(60)])


class Ends(unittest.TestCase):
    def test_the_earliest_that_can_be_the_last(self):
        text = words_of("a b b b")
        self.assertEqual(found(text, word(0, "a"), word(30, "b")), [(0, 0, 1)])
        self.assertEqual(found(text, word(0, "a"), word(30, "b"), word(30, "b")), [(0, 0, 2)])

    def test_the_nearest_in_between_leads_nowhere(self):
        text = words_of("a b x b c")
        self.assertEqual(found(text, word(0, "a"), word(30, "b"), word(0, "c")), [(0, 0, 4)])
        self.assertEqual(found(text, word(0, "a"), word(2, "b"), word(0, "c")), [(0, 0, 4)])
        self.assertEqual(found(text, word(0, "a"), word(1, "b"), word(0, "c")), [])

    def test_the_nearest_leads_nowhere_twice(self):
        text = words_of("a b c x b c x c d")
        self.assertEqual(found(text, word(0, "a"), word(30, "b"), word(1, "c"), word(0, "d")), [])
        self.assertEqual(found(text, word(0, "a"), word(30, "b"), word(2, "c"), word(0, "d")), [(0, 0, 8)])
        self.assertEqual(found(text, word(0, "a"), word(2, "b"), word(2, "c"), word(0, "d")), [])

    def test_an_earlier_end_by_way_of_the_nearest(self):
        # By the nearest b the end is 2, by the other one 4.
        text = words_of("a b c b c")
        self.assertEqual(found(text, word(0, "a"), word(30, "b"), word(0, "c")), [(0, 0, 2)])

    def test_of_one_step_the_word_itself(self):
        self.assertEqual(found(words_of("a b a"), word(0, "a")), [(0, 0, 0), (0, 2, 2)])

    def test_many_ways_through_an_item(self):
        words = " ".join(["a"] * 30)
        text = "\n".join([f"{words}\n{words}\n{words.replace('a', 'x')}\n"] * 33)
        four = [step(30, (WRITTEN, "a"), (PART, "x"), (NONE, "y"), (FORM, "a"))] * 4
        with promptly():
            told = ask(read(text), *[find(*four)] * 50)
        self.assertEqual(told[0], [33])
        wanted = [(item, at, at + 3) for item in range(33) for at in range(27)]
        self.assertEqual(places_in(told[1]), wanted)
        self.assertEqual(told[1:], [told[1]] * 50)


def fits(trio, wanted):
    """Whether a word, told by its three rows, has what's wanted, all of it."""
    forms, glosses = [re.split("[-=~]", row) for row in trio[1:]]
    tests = {WRITTEN: lambda sought: trio[0] == sought,
             FORM: lambda sought: sought in forms,
             GLOSS: lambda sought: sought in glosses,
             PART: lambda sought: any(sought in gloss.split(".") for gloss in glosses),
             FIRST: lambda sought: glosses[0] == sought,
             LAST: lambda sought: glosses[-1] == sought,
             NONE: lambda sought: sought not in glosses}
    return all(tests[kind](sought) for kind, sought in wanted)


def every_place(text, steps):
    """The places of (gap, wanted) steps, by going through all choices of words."""
    places = []
    for number, entry in enumerate(text.split("\n\n")):
        words = list(zip(*[line.split() for line in entry.split("\n")[:3]]))
        ends = {}
        for taken in itertools.combinations(range(len(words)), len(steps)):
            near = all(after - before - 1 <= gap for before, after, (gap, _) in zip(taken, taken[1:], steps[1:]))
            if near and all(fits(words[at], wanted) for at, (_, wanted) in zip(taken, steps)):
                ends[taken[0]] = min(taken[-1], ends.get(taken[0], taken[-1]))
        places.extend([(number, at, ends[at]) for at in sorted(ends)])
    return places


class AllChoices(unittest.TestCase):
    def compare(self, text, choices, size):
        for steps in itertools.product(choices, repeat=size):
            told = found(text, *[step(gap, *wanted) for gap, wanted in steps])
            self.assertEqual(told, every_place(text, steps), (text, steps))

    def test_each_kind_in_each_step(self):
        choices = [(1, [(kind, sought)]) for kind in range(7) for sought in ("bark", "cry", "PL", "s", "PRS")]
        self.compare(TEXT, choices, 1)
        self.compare(TEXT, choices, 2)

    def test_gaps_and_ends(self):
        choices = [(gap, wanted) for gap in (0, 1, 2) for wanted in ([], [(WRITTEN, "a")], [(NONE, "a")])]
        for words in ("a b a a b", "b a b b a a", "a a b a b b a"):
            self.compare(words_of(words, "a b"), choices, 3)

    def test_four_steps(self):
        choices = [(0, [(WRITTEN, "a")]), (1, [(WRITTEN, "b")]), (2, []), (30, [(NONE, "b"), (GLOSS, "a")])]
        for words in ("a b a b a b b", "b b a a b a b a"):
            self.compare(words_of(words), choices, 4)


class Refused(unittest.TestCase):
    def refuse(self, *numbers):
        """Refused as it stands, of a text as of the empty one, and nothing is changed by it."""
        one = call(10, numbers)
        after = [KNOWN, piece(0), find(step(0))]
        before = ask(read(TEXT), *after)[1:]
        told = ask(one, read(TEXT), one, *after)
        self.assertEqual([told[0], told[2]], [[-1], [-1]], numbers)
        self.assertEqual(told[3:], before)

    def test_no_steps(self):
        self.refuse(0)

    def test_5_steps(self):
        self.assertEqual(found(TEXT, *[step(0)] * 4), [(0, 0, 3)])
        self.refuse(5, *step(0) * 5)
        self.refuse(100, *step(0) * 100)
        self.refuse(LARGEST)

    def test_a_gap_of_31(self):
        for gap in (31, 100, LARGEST):
            self.refuse(1, *step(gap))
            self.refuse(1, *step(gap, (WRITTEN, "dogs")))
            self.refuse(2, *step(0), *step(gap))
            self.refuse(4, *step(0), *step(30), *step(0), *step(gap))
            self.refuse(4, *step(0), *step(gap), *step(0), *step(0))

    def test_5_things_wanted(self):
        self.assertEqual(found(TEXT, step(0, *[(NONE, "x")] * 4)), at_words(*EVERYWHERE))
        for amount in (5, 100):
            many = step(0, *[(NONE, "x")] * amount)
            self.refuse(1, *many)
            self.refuse(2, *step(0), *many)
            self.refuse(4, *step(0), *step(0), *step(0), *many)
            self.refuse(4, *step(0), *many, *step(0), *step(0))
        self.refuse(1, 0, LARGEST)
        self.refuse(2, *step(0), 0, LARGEST)

    def test_kind_7(self):
        for kind in (7, 100, LARGEST):
            self.refuse(1, *step(0, (kind, "dogs")))
            self.refuse(1, *step(0, (kind, "")))
            self.refuse(1, *step(0, (WRITTEN, "dogs"), (kind, "dogs")))
            self.refuse(1, *step(0, *[(NONE, "x")] * 3, (kind, "dogs")))
            self.refuse(2, *step(0), *step(0, (kind, "dogs")))
            self.refuse(4, *step(0), *step(0), *step(0), *step(30, (WRITTEN, "dogs"), (kind, "x")))

    def test_refused_also_where_nothing_would_be_found(self):
        self.refuse(2, *step(0, (WRITTEN, "nowhere")), *step(31))
        self.refuse(2, *step(0, (WRITTEN, "nowhere")), *step(0, (7, "x")))
        self.refuse(2, *step(0, (WRITTEN, "nowhere")), *step(0, *[(NONE, "x")] * 5))

    def test_several_at_once(self):
        self.refuse(5, *step(31, *[(7, "x")] * 5) * 5)

    def test_refused_with_the_most_numbers_that_are_handed_in(self):
        wanted = step(0, *[(WRITTEN, "a" * 76)] * 100)
        self.assertLessEqual(len(wanted) + 1, 8000)
        self.refuse(1, *wanted)

    def test_the_call_behind_is_answered(self):
        self.assertEqual(ask(read(ONE), call(10, [0]), find(step(0)), call(10, [1, 31, 0]), find(step(30)))[1:],
                         [[-1], [1, 0, 0, 0], [-1], [1, 0, 0, 0]])


class Texts(unittest.TestCase):
    def test_the_empty_text(self):
        self.assertEqual(ask(find(step(0)), find(step(0, (NONE, "x"))), find(step(0), step(30))), [[0], [0], [0]])
        self.assertEqual(ask(read(TEXT), BEGINS, find(step(0))), [[2], [0], [0]])

    def test_found_anew_with_each_text(self):
        told = ask(read(TEXT), read(ONE), find(word(0, "dogs")), find(word(0, "a")))
        self.assertEqual(told[2:], [[0], [1, 0, 0, 0]])

    def test_a_refused_text_is_not_searched(self):
        told = ask(read(ONE), read("b\nc\nx\n"), find(word(0, "b")), find(word(0, "a")))
        self.assertEqual(told[1:], [[-3, 6, 2], [0], [1, 0, 0, 0]])

    def test_blanks_and_the_line_with_a_quote_count_for_nothing(self):
        text = "  a   b \na b\n x  y\n'a b a\n"
        self.assertEqual(found(text, word(0, "a"), word(0, "b")), [(0, 0, 1)])
        self.assertEqual(found(text, step(0)), [(0, 0, 0), (0, 1, 1)])


if __name__ == "__main__":
    unittest.main()
