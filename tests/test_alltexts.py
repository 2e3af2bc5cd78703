"""Points 56 to 58: programs that write the same on all texts."""

import time
import unittest

import reference
from oneuseheads.alltexts import first_apart, row_basis, writes_same
from oneuseheads.boxes import boxed
from oneuseheads.errors import BadProgram, OtherLetters, TooMany
from oneuseheads.heads import head_of, program_of
from oneuseheads.joining import behind, both, read_as, relettered, turned_in, turned_out
from oneuseheads.programs import is_program, letters
from oneuseheads.walks import run
from samples import DOUBLED, DROPPING, END, FORGETTING, IDENTITY, PROGRAMS, T, THERE_AND_BACK, TURNED, call, copied, fun
from samples import n, put, refused, texts_to
from test_alike import all_texts, pairs
from test_boxes import led_round
from test_programs import BAD_PROGRAMS, great_program
from test_walks import programs


def places(value):
    return sum(3 ** many for many, _, _ in boxed(value)[3])


def words_led(many, steps, init=0, last=None):
    """A program that keeps so many words.

    Each step is a triple of a letter, the word that is put at once, and for each place the pair of the number of the
    place from which its word is, and of the word put ahead of it; None for an empty one.
    """
    kind = texts_to(many)
    names = ["x" + reference.name_of_end(at) for at in range(many)]

    def bound(body):
        for name in reversed(names):
            body = fun(name, T, body)
        return body

    told = []
    for letter, word, rows in steps:
        handed = [put(more, END if source is None else n(names[source])) for source, more in rows]
        told.append((letter, fun("f", kind, bound(put(word, call(n("f"), *handed))))))
    begun = last or [""] * many
    value = ("program", kind, bound(n(names[init])), tuple(told), fun("f", kind, call(n("f"), *[put(word, END) for word in begun])))
    assert is_program(value)
    return value


def round_of_words(words, letters_told="a"):
    """A program of one letter, or of several that do the same, that writes one of words, by the text's length."""
    many = len(words)
    rows = [((at + 1) % many, "") for at in range(many)]
    return words_led(many, [(letter, "", rows) for letter in letters_told], 0, words)


def small_pairs(many=60):
    """Pairs with few places."""
    found = [(value, value) for value in PROGRAMS] + [(TURNED, DOUBLED), (DOUBLED, FORGETTING), (DOUBLED, turned_in(DOUBLED))]
    for one, other in pairs(5 * many):
        if len(found) < many and places(one) + places(other) <= 160:
            found.append((one, other))
    return found


class RowBasis(unittest.TestCase):
    def test_examples(self):
        # By hand: the one box of both holds 2n letters a behind n of them, so its power is 4 ** n, its worth 4 ** n - 1.
        self.assertEqual(row_basis(DOUBLED, DOUBLED), ["", "a"])
        self.assertEqual(row_basis(one=DROPPING, other=DROPPING), [""])
        self.assertEqual(row_basis(TURNED, TURNED), ["", "a", "b"])
        self.assertEqual(row_basis(TURNED, DOUBLED), ["", "a", "b", "aa"])
        # No letter is ever written: the base is 1.
        never = round_of_words([""])
        self.assertEqual(row_basis(never, never), [""])

    def test_the_letters_of_both_are_the_digits(self):
        # With a alone, worths are powers less 1; with a and b they are not.
        one = ("program", T, END, (("a", fun("x", T, put("b", n("x")))), ("b", fun("x", T, put("b", n("x"))))), IDENTITY)
        other = ("program", T, END, (("a", fun("x", T, n("x"))), ("b", fun("x", T, n("x")))), fun("x", T, END))
        third = ("program", T, END, (("a", fun("x", T, n("x"))), ("b", fun("x", T, n("x")))),
                 fun("x", T, call(fun("z", T, END), put("a", n("x")))))
        self.assertEqual(row_basis(one, other), ["", "a"])
        self.assertEqual(row_basis(one, third), ["", "a"])
        both_letters = ("program", T, END, (("a", fun("x", T, put("a", n("x")))), ("b", fun("x", T, put("b", n("x"))))), IDENTITY)
        self.assertEqual(row_basis(both_letters, other), ["", "a", "b"])

    def test_as_told_by_the_rules(self):
        sizes = []
        for one, other in small_pairs(90):
            told = row_basis(one, other)
            wanted = reference.row_basis(one, other, boxed(one), boxed(other))
            self.assertEqual(told, wanted)
            sizes.append(len(told))
        self.assertGreater(len(set(sizes)), 5)

    def test_among_all_texts(self):
        # Not only behind texts that are in the list.
        for one, other in small_pairs(25):
            if len(letters(one)) < 3:
                told = row_basis(one, other)
                if max(map(len, told)) <= 4:
                    self.assertEqual(told, reference.row_basis(one, other, boxed(one), boxed(other), True))

    def test_facts(self):
        for one, other in small_pairs():
            held = copied((one, other), {})
            told = row_basis(one, other)
            self.assertEqual((one, other), held)
            self.assertEqual(told, sorted(told, key=lambda text: (len(text), text)))
            self.assertEqual(told[0], "")
            for text in told[1:]:
                self.assertIn(text[:-1], told)
            self.assertLessEqual(len(told), places(one) + places(other))
            told.append("more")
            self.assertEqual(row_basis(one, other), told[:-1])

    def test_great_numbers(self):
        # All words of 40 letters, some of them led round: by fractions, too.
        word = "abcdefghijklmnopqrstuvwxyz" + "zyxwvutsrqponm"
        one = words_led(2, [("a", "", [(1, word), (0, "k")]), ("b", "c", [(0, ""), (1, word)])])
        other = words_led(1, [("a", "", [(0, "z" * 40)]), ("b", "", [(None, "a" * 40)])])
        for value in (one, other):
            self.assertEqual(row_basis(value, value), reference.row_basis(value, value, boxed(value), boxed(value)))

    def test_one_letter_behind_another(self):
        # By hand: the powers behind n letters are 2 ** n, 4 ** n, and so on, and their products up to 2 ** 6n.
        value = words_led(3, [("a", "", [(0, "p"), (1, "pp"), (2, "ppp")])])
        self.assertEqual(row_basis(value, value), ["a" * at for at in range(7)])

    def test_many_places(self):
        begun = time.monotonic()
        value = words_led(6, [("a", "r", [(1, "p"), (2, "qq"), (3, ""), (4, ""), (5, ""), (0, "")])])
        self.assertEqual(places(value), 2187)
        told = row_basis(value, value)
        self.assertEqual(told, ["a" * at for at in range(len(told))])
        full = words_led(4, [("a", "", [(1, ""), (2, ""), (3, ""), (0, "")]), ("b", "", [(0, "p"), (1, ""), (2, ""), (3, "")]),
                             ("c", "", [(0, "q"), (1, ""), (2, ""), (3, "")])])
        # Each of the four words can be any: three numbers for each of them.
        self.assertEqual(len(row_basis(full, full)), 81)
        wide = led_round([5, 1, 1, 1, 1], False, True)
        self.assertEqual([many for many, _, _ in boxed(wide)[3]], [6] * 5)
        self.assertEqual(places(wide), 3645)
        self.assertIs(writes_same(wide, wide), True)
        self.assertEqual(row_basis(wide, wide), reference.row_basis(wide, wide, boxed(wide), boxed(wide)))
        self.assertLess(time.monotonic() - begun, 300)

    def test_too_many(self):
        seven = words_led(7, [("a", "", [(at, "") for at in range(7)])])
        six = words_led(6, [("a", "", [(at, "") for at in range(6)])])
        self.assertEqual((places(seven), places(six)), (6561, 2187))
        rows = led_round([6, 1, 1, 1, 1], False, True)
        self.assertEqual(places(rows), 4374)
        for function in (row_basis, first_apart, writes_same):
            for one, other in [(seven, six), (six, seven), (seven, seven), (rows, six), (six, rows)]:
                self.assertMost(4000, function, one, other)
            # More than 400 shapes are told ahead of more than 4000 places, whichever program has them.
            wide = words_led(7, [(letter, "", [(at, "") for at in range(7)]) for letter in "abcd"])
            for one, other in [(wide, MANY_SHAPES), (MANY_SHAPES, wide), (MANY_SHAPES, MANY_SHAPES)]:
                self.assertMost(400, function, one, other)
            self.assertRaises(OtherLetters, function, seven, MANY_SHAPES)
        self.assertEqual(row_basis(six, six), [""])

    def assertMost(self, most, function, one, other):
        with self.assertRaises(TooMany) as found:
            function(one, other)
        self.assertEqual(found.exception.most, most)


MANY_SHAPES = led_round([4, 10, 10], True)


class FirstApart(unittest.TestCase):
    def test_examples(self):
        self.assertIsNone(first_apart(DOUBLED, turned_in(DOUBLED)))
        self.assertIs(writes_same(one=DOUBLED, other=turned_in(DOUBLED)), True)
        self.assertEqual(first_apart(one=TURNED, other=DOUBLED), "a")
        self.assertIs(writes_same(TURNED, DOUBLED), False)
        self.assertEqual(first_apart(TURNED, THERE_AND_BACK), "")
        self.assertEqual(first_apart(TURNED, turned_in(TURNED)), "ab")

    def test_where_it_comes_from_has_no_bearing(self):
        more = fun("x", T, put("a", n("x")))
        one = ("program", T, END, (("a", more),), more)
        other = ("program", T, put("a", END), (("a", more),), IDENTITY)
        self.assertIsNone(first_apart(one, other))
        self.assertIs(writes_same(one, other), True)

    def test_all_texts_by_length(self):
        seen = {True: 0, False: 0}
        for one, other in small_pairs(150):
            told = first_apart(one, other)
            self.assertIs(writes_same(one, other), told is None)
            apart = [text for text in all_texts(one, 5 if len(letters(one)) < 3 else 4) if run(one, text) != run(other, text)]
            if apart:
                self.assertEqual(told, apart[0])
            else:
                self.assertTrue(told is None or len(told) > 4)
            basis = row_basis(one, other)
            self.assertEqual(told, next((text for text in basis if run(one, text) != run(other, text)), None))
            seen[told is None] += 1
        self.assertGreater(min(seen.values()), 25)

    def test_apart_on_long_texts(self):
        for one, other, length in [(["a", "b"], ["a", "b", "a"], 3), (["a", "b"], ["a", "b"] * 2 + ["a", "a"], 5),
                                   (["a"] * 4 + ["b"], ["a"] * 6, 4), (["a", "b", "c"], ["a", "b", "c"] * 2, None),
                                   (["a", ""], ["a", "", "a", ""], None), (["", "q"], ["", "q", "", "qq"], 3)]:
            one, other = round_of_words(one), round_of_words(other)
            wanted = None if length is None else "a" * length
            self.assertEqual(first_apart(one, other), wanted)
            self.assertEqual(first_apart(other, one), wanted)

    def test_same_words_told_in_other_ways(self):
        # The second writes backward what the first writes forward.
        forward = words_led(1, [("a", "p", [(0, "")]), ("b", "q", [(0, "")])], 0, ["z"])
        backward = words_led(1, [("a", "", [(0, "p")]), ("b", "", [(0, "q")])], 0, [""])
        self.assertEqual(first_apart(forward, backward), "")
        last = relettered(forward, (("z", ""),))
        self.assertEqual(first_apart(last, backward), "ab")
        self.assertIsNone(first_apart(last, turned_in(backward)))
        self.assertIsNone(first_apart(last, turned_out(backward)))
        self.assertIsNone(first_apart(turned_in(turned_in(last)), last))

    def test_laws_of_putting_together(self):
        for one in [value for value in [*PROGRAMS, *programs(30, 3)] if places(value) < 100]:
            for make in (lambda told: turned_in(turned_in(told)), lambda told: turned_out(turned_out(told)),
                         lambda told: program_of(head_of(told)),
                         lambda told: relettered(told, (("a", "a"), ("z", "z"))),
                         lambda told: read_as(told, tuple((letter, letter) for letter in letters(told)))):
                try:
                    come = make(one)
                except TooMany:
                    continue
                if places(come) < 300:
                    self.assertIsNone(first_apart(one, come))
        p, q, r = DOUBLED, TURNED, FORGETTING
        self.assertIs(writes_same(behind(behind(p, p), q), behind(p, behind(p, q))), True)
        self.assertIs(writes_same(turned_out(both(p, q)), both(turned_out(q), turned_out(p))), True)
        self.assertIs(writes_same(turned_in(both(p, q)), both(turned_in(p), turned_in(q))), True)
        self.assertIs(writes_same(both(p, q), both(q, p)), False)
        self.assertIs(writes_same(relettered(r, (("z", ""),)), r), False)

    def test_wrong(self):
        bad = [*BAD_PROGRAMS, great_program(31)]
        for function in (row_basis, first_apart, writes_same):
            refused(self, function, {"one": TURNED, "other": DOUBLED},
                    [("one", BadProgram, bad), ("other", BadProgram, bad), ("other", OtherLetters, [DROPPING, great_program(30)])])


if __name__ == "__main__":
    unittest.main()
