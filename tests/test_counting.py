"""Point 36: how often letters are written, on all texts."""

import unittest

from oneuseheads.boxes import boxed
from oneuseheads.counting import counts, counts_alike, counts_parted
from oneuseheads.errors import BadProgram, BadText, OtherLetters, TooMany
from oneuseheads.heads import head_of, program_of
from oneuseheads.joining import both, turned_in, turned_out
from oneuseheads.programs import letters
from oneuseheads.walks import walk
from samples import DOUBLED, DROPPING, END, IDENTITY, PROGRAMS, T, THERE_AND_BACK, TURNED, copied, fun, n, put, refused
from test_alike import all_texts, pairs
from test_alltexts import round_of_words, words_led
from test_boxes import led_round
from test_programs import BAD_PROGRAMS, great_program
from test_walks import BAD_TEXTS, programs, texts


def counted(value, text):
    """The counts, told by the walk."""
    written = [letter for letter, _ in walk(value, text)[0]]
    return {letter: written.count(letter) for letter in sorted(set(written))}


class Counts(unittest.TestCase):
    def test_examples(self):
        self.assertEqual(counts(TURNED, "abb"), {"a": 1, "b": 2})
        self.assertEqual(counts(program=DOUBLED, text="bab"), {"a": 2})
        self.assertEqual(counts(DOUBLED, ""), {})
        self.assertEqual(counts(THERE_AND_BACK, "a"), {"a": 2, "m": 1, "s": 1, "t": 1})
        self.assertEqual(counts(DOUBLED, "ab" * 500), {"a": 1000})

    def test_those_of_the_walk(self):
        for value in programs(60, 7):
            for text in texts(value, 9):
                told = counts(value, text)
                self.assertEqual(told, counted(value, text))
                self.assertEqual(list(told), sorted(told))
                self.assertNotIn(0, list(told.values()))

    def test_new(self):
        told = counts(TURNED, "a")
        told["a"] = 7
        self.assertEqual(counts(TURNED, "a"), {"a": 1})

    def test_wrong(self):
        refused(self, counts, {"program": TURNED, "text": "ab"},
                [("program", BadProgram, [*BAD_PROGRAMS, great_program(31)]), ("text", BadText, BAD_TEXTS)])


def check_parted(test, one, other, told):
    """What is told if counts are parted."""
    test.assertIs(type(told), tuple)
    text, letter = told
    test.assertNotEqual(counted(one, text).get(letter, 0), counted(other, text).get(letter, 0))
    if len(text) < 7:
        for shorter in all_texts(one, len(text) - 1):
            test.assertEqual(counted(one, shorter), counted(other, shorter), (told, shorter))


class Parted(unittest.TestCase):
    def test_examples(self):
        self.assertIsNone(counts_parted(TURNED, turned_in(TURNED)))
        self.assertIs(counts_alike(one=TURNED, other=turned_in(TURNED)), True)
        self.assertIn(counts_parted(one=TURNED, other=DOUBLED), [("a", "a"), ("b", "b")])
        self.assertIs(counts_alike(TURNED, DOUBLED), False)
        self.assertEqual(counts_parted(TURNED, THERE_AND_BACK)[0], "")
        self.assertIsNone(counts_parted(DOUBLED, DOUBLED))

    def test_all_texts_by_length(self):
        seen = {True: 0, False: 0}
        for one, other in [*pairs(250), *[(value, turned_out(value)) for value in PROGRAMS]]:
            held = copied((one, other), {})
            told = counts_parted(one, other)
            self.assertEqual((one, other), held)
            self.assertIs(counts_alike(one, other), told is None)
            seen[told is None] += 1
            if told is None:
                for text in all_texts(one, 5):
                    self.assertEqual(counted(one, text), counted(other, text))
            else:
                check_parted(self, one, other, told)
        self.assertGreater(min(seen.values()), 40)

    def test_where_letters_are_from_has_no_bearing(self):
        for value in [*PROGRAMS, *programs(40, 3)]:
            for make in (turned_out, lambda told: program_of(head_of(told)), lambda told: turned_in(turned_in(told))):
                try:
                    come = make(value)
                except TooMany:
                    continue
                self.assertIsNone(counts_parted(value, come))
        self.assertIsNone(counts_parted(both(TURNED, DOUBLED), both(DOUBLED, TURNED)))

    def test_rounds(self):
        for one, other, length in [(["a", "b"], ["a", "b", "a"], 3), (["a", "b"], ["a", "b"] * 2 + ["a", "a"], 5),
                                   (["a", "a", "b"], ["a", "a", "b", "a", "b"], 4), (["a"] * 4 + ["b"], ["a"], 4),
                                   (["ab", "c"], ["ba", "c"] * 3, None), (["a", "b", "c"], ["a", "b", "c"] * 2, None),
                                   (["", "aab"], ["", "aba", "", "baa", "", "aab"], None), (["a", "a"], ["a"] * 5 + ["aa"], 5)]:
            one, other = round_of_words(one), round_of_words(other)
            for first, second in [(one, other), (other, one)]:
                told = counts_parted(first, second)
                self.assertEqual(told is None, length is None)
                if length is not None:
                    self.assertEqual(told[0], "a" * length)
                    check_parted(self, first, second, told)

    def test_parted_at_a_great_length(self):
        self.assertEqual(counts_parted(round_of_words(["a"] * 28 + ["b"]), round_of_words(["a"]))[0], "a" * 28)
        # Three rounds at once, against one that tells the same for the first 14 lengths.
        rounds = [round_of_words([""] * (many - 1) + ["a"]) for many in (2, 3, 5)]
        all_of_them = round_of_words(["aaa" if at % 30 == 29 else "a" * sum(at % many == many - 1 for many in (2, 3, 5))
                                      for at in range(14)])
        told = counts_parted(both(rounds[0], both(rounds[1], rounds[2])), all_of_them)
        self.assertEqual(told, ("a" * 14, "a"))

    def test_growing_numbers(self):
        # As many on short texts: the one adds one more each round, the other all at once.
        one = words_led(2, [("a", "", [(1, "p"), (0, "")])])
        other = words_led(2, [("a", "", [(1, ""), (0, "p")])])
        told = counts_parted(one, other)
        check_parted(self, one, other, told)
        grows = ("program", T, END, (("a", fun("x", T, put("pp", n("x")))), ("b", IDENTITY)), IDENTITY)
        halves = words_led(2, [("a", "p", [(0, ""), (1, "")]), ("b", "", [(0, ""), (1, "")])])
        self.assertEqual(counts_parted(grows, halves), ("a", "p"))
        twice = both(halves, halves)
        self.assertIsNone(counts_parted(grows, twice))
        self.assertIsNone(counts_parted(twice, grows))
        later = words_led(3, [("a", "pp", [(1, ""), (2, ""), (0, "")]), ("b", "", [(1, ""), (0, ""), (2, "")])], 0, ["", "", "q"])
        self.assertEqual(counts_parted(grows, later)[1], "q")
        check_parted(self, grows, later, counts_parted(grows, later))

    def test_two_letters_the_shorter_text(self):
        one = ("program", T, END, (("a", IDENTITY),), IDENTITY)
        other = words_led(3, [("a", "", [(1, ""), (2, ""), (0, "")])], 0, ["", "z", "b"])
        self.assertEqual(counts_parted(one, other), ("a", "z"))
        other = words_led(3, [("a", "", [(1, ""), (2, ""), (0, "")])], 0, ["", "b", "z"])
        self.assertEqual(counts_parted(one, other), ("a", "b"))

    def test_too_many(self):
        def led(own, forgets=False):
            return led_round([4, 5], forgets, True, own)

        self.assertEqual(len(boxed(led("b"))[3]), 20)
        # 20 rows of one and 20 of the other, each led by a letter of its own.
        one, other = led("bc"), led("ac")
        self.assertEqual((letters(one), letters(other)), ("abc", "abc"))
        self.assertIs(counts_alike(one, other), counts_parted(one, other) is None)
        for function in (counts_alike, counts_parted):
            for first, second in [(forgetful("a", "b"), forgetful("b", "a")), (SHAPES, SHAPES), (SHAPES, few("abcd")), (few("abcd"), SHAPES)]:
                with self.assertRaises(TooMany) as found:
                    function(first, second)
                self.assertEqual(found.exception.most, 400)
            self.assertRaises(OtherLetters, function, SHAPES, few("abc"))
        # Unlike counts on a short text are of no bearing.
        self.assertEqual(few("abcd")[4], IDENTITY)

    def test_wrong(self):
        bad = [*BAD_PROGRAMS, great_program(31)]
        for function in (counts_alike, counts_parted):
            refused(self, function, {"one": TURNED, "other": DOUBLED},
                    [("one", BadProgram, bad), ("other", BadProgram, bad), ("other", OtherLetters, [DROPPING, great_program(30)])])


SHAPES = led_round([4, 10, 10], True)


def few(letters_told):
    return ("program", T, put("kk", END), tuple((letter, IDENTITY) for letter in letters_told), IDENTITY)


def forgetful(turning, idle):
    """A program with 21 rows: turning leads it round, c makes it forget."""
    value = led_round([4, 5], True, True)
    turned, forgetting = dict(value[3])["a"], dict(value[3])["b"]
    kind = value[1]
    steps = tuple(sorted([(turning, turned), (idle, fun("f", kind, n("f"))), ("c", forgetting)]))
    return ("program", kind, value[2], steps, value[4])


if __name__ == "__main__":
    unittest.main()
