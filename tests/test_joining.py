"""Points 51 and 52: programs put together."""

import unittest

import reference
from oneuseheads.errors import BadProgram, BadWords, OtherLetters, TooMany, Unread
from oneuseheads.joining import behind, both, read_as, relettered, turned_in, turned_out
from oneuseheads.programs import is_program, letters
from oneuseheads.walks import run
from samples import DOUBLED, DROPPING, END, FORGETTING, IDENTITY, Numbers, PROGRAMS, T, THERE_AND_BACK, TT, TURNED
from samples import call, copied, fun, made_program, made_text, n, odd_values, put, refused, term_of_nodes, texts_to, to
from test_programs import BAD_PROGRAMS, great_program, right_program
from test_walks import texts

BAD_PROGRAM_VALUES = [*BAD_PROGRAMS, great_program(31)]
ALL = "abcdefghijklmnopqrstuvwxyz"


def plain_program(letters_told, word="", init=END, last=IDENTITY):
    """A program of kind text that writes this word for each of its letters."""
    return ("program", T, init, tuple((letter, fun("x", T, put(word, n("x")))) for letter in letters_told), last)


def small_programs(many, letters_told=None, seed=301, fuel=3):
    numbers = Numbers(seed)
    found = []
    while len(found) < many:
        value = made_program(numbers, 3, fuel, letters_told or numbers.one_of(["a", "ab", "abc", "acz"]))
        if right_program(value):
            found.append(value)
    return found


def told_or_most(function, *values):
    try:
        return function(*values)
    except TooMany as error:
        return error.most


class AsTold(unittest.TestCase):
    """Each function against the program built by hand, and against TooMany if that is none."""

    def check(self, function, by_hand, *values):
        """What is told, None if it is too great."""
        held = copied(values, {})
        told = told_or_most(function, *values)
        self.assertEqual(values, held)
        wanted = by_hand(*values)
        if reference.is_program(wanted):
            self.assertEqual(told, wanted)
            self.assertIs(is_program(told), True)
            return told
        self.assertEqual(told, 400)
        return None

    def test_behind(self):
        numbers = Numbers(303)
        known = 0
        for first in [*PROGRAMS[:3], *small_programs(60)]:
            for second in [TURNED, DOUBLED, THERE_AND_BACK, *small_programs(6, "abcz", 305), *small_programs(2, "ab")]:
                unread = [letter for letter in reference.letters_put(first) if letter not in letters(second)]
                if unread:
                    with self.assertRaises(Unread) as found:
                        behind(first, second)
                    self.assertEqual(found.exception.letter, unread[0])
                    continue
                told = self.check(behind, reference.behind, first, second)
                if told is not None:
                    known += 1
                    for text in ["", made_text(numbers, letters(first), 6), made_text(numbers, letters(first), 12)]:
                        self.assertEqual(run(told, text), run(second, run(first, text)))
        self.assertGreater(known, 100)

    def test_turned_in(self):
        for value in [*PROGRAMS, *small_programs(60, fuel=5)]:
            told = self.check(turned_in, reference.turned_in, value)
            if told is not None:
                for text in texts(value, 9):
                    self.assertEqual(run(told, text), run(value, text[::-1]))

    def test_turned_out(self):
        known = 0
        for value in [*PROGRAMS, *small_programs(80, fuel=5)]:
            told = self.check(turned_out, reference.turned_out, value)
            if told is not None:
                known += 1
                for text in texts(value, 9):
                    self.assertEqual(run(told, text), run(value, text)[::-1])
        self.assertGreater(known, 40)

    def test_both(self):
        known = 0
        for seed, letters_told in enumerate(["a", "ab", "abc"]):
            for one, other in zip(small_programs(30, letters_told, 311 + seed), small_programs(30, letters_told, 321 + seed)):
                told = self.check(both, reference.both, one, other)
                if told is not None:
                    known += 1
                    for text in texts(one, 9):
                        self.assertEqual(run(told, text), run(one, text) + run(other, text))
        self.assertGreater(known, 40)

    def test_relettered(self):
        numbers = Numbers(331)
        for value in [*PROGRAMS, *small_programs(60, fuel=5)]:
            words = made_words(numbers, ALL, ALL, 26)
            told = self.check(relettered, reference.relettered, value, words)
            if told is not None:
                for text in texts(value, 9):
                    written = "".join(dict(words).get(letter, letter) for letter in run(value, text))
                    self.assertEqual(run(told, text), written)

    def test_read_as(self):
        numbers = Numbers(337)
        for value in [*PROGRAMS, *small_programs(60, fuel=4)]:
            words = made_words(numbers, ALL, letters(value), 4)
            told = self.check(read_as, reference.read_as, value, words)
            if told is not None:
                self.assertEqual(letters(told), "".join(letter for letter, _ in words))
                for text in texts(told, 9):
                    self.assertEqual(run(told, text), run(value, "".join(dict(words)[letter] for letter in text)))


def made_words(numbers, keys, signs, most):
    found = {numbers.one_of(keys): made_text(numbers, signs, 4) for _ in range(1 + numbers.below(most))}
    return tuple(sorted(found.items()))


class Examples(unittest.TestCase):
    def test_turned_in_of_the_document(self):
        told = turned_in(program=DOUBLED)
        step = fun("x", T, put("aa", n("x")))

        def turned(inner):
            return fun("f", TT, fun("x", T, call(n("f"), call(inner, n("x")))))

        self.assertEqual(told, ("program", TT, IDENTITY, (("a", turned(step)), ("b", turned(IDENTITY))),
                                fun("f", TT, call(IDENTITY, call(n("f"), END)))))
        self.assertEqual(run(told, "abba"), "aaaa")

    def test_behind(self):
        told = behind(first=DOUBLED, second=TURNED)
        put_a = dict(TURNED[3])["a"]
        self.assertEqual(told[:3], ("program", TT, TURNED[2]))
        self.assertEqual(told[3], (("a", fun("x", TT, call(put_a, call(put_a, n("x"))))), ("b", fun("x", TT, n("x")))))
        self.assertEqual(told[4], fun("z", TT, call(TURNED[4], call(fun("x", TT, n("x")), n("z")))))

    def test_turned_out(self):
        told = turned_out(program=plain_program("a", "q", put("e", END)))

        def step(letter):
            return fun("g", TT, fun("y", T, call(n("g"), put(letter, n("y")))))

        unit = fun("y", T, n("y"))
        self.assertEqual(told, ("program", TT, call(step("e"), unit), (("a", fun("x", TT, call(step("q"), n("x")))),),
                                fun("z", TT, call(call(fun("x", TT, n("x")), n("z")), END))))

    def test_both(self):
        told = both(one=plain_program("a", "q"), other=plain_program("a", "r", put("s", END)))
        self.assertEqual(run(told, "aaa"), "qqqrrrs")
        c = to(TT, T, T)
        self.assertEqual(told[1], to(c, T))
        self.assertEqual(told[2], fun("k", c, call(n("k"), fun("y", T, n("y")), put("s", END))))

    def test_words(self):
        value = plain_program("ab", "qr", put("q", END))
        self.assertEqual(relettered(program=value, words=(("q", "xyz"),)), plain_program("ab", "xyzr", put("xyz", END)))
        self.assertEqual(relettered(value, (("q", ""), ("r", "q"))), plain_program("ab", "q"))
        self.assertEqual(relettered(value, (("a", "b"),)), value)
        told = read_as(program=DOUBLED, words=(("q", "ab"), ("z", "")))
        steps = dict(DOUBLED[3])
        self.assertEqual(told[3], (("q", fun("z", T, call(steps["a"], call(steps["b"], n("z"))))), ("z", fun("z", T, n("z")))))
        self.assertEqual((told[:3], told[4]), (DOUBLED[:3], DOUBLED[4]))

    def test_in_another_order(self):
        p, q, r = plain_program("ab", "ab"), DOUBLED, TURNED
        one, other = behind(behind(p, q), r), behind(p, behind(q, r))
        for text in ["", "a", "abab", "bbbaab"]:
            self.assertEqual(run(one, text), run(r, run(q, run(p, text))))
            self.assertEqual(run(other, text), run(one, text))

    def test_long_texts(self):
        self.assertEqual(run(turned_in(TURNED), "ab" * 500), "ab" * 500)
        self.assertEqual(run(turned_out(TURNED), "ab" * 500), "ab" * 500)
        self.assertEqual(run(turned_out(FORGETTING), "b" * 500 + "ab"), "a" + "b" * 500 + "z")
        self.assertEqual(run(both(DOUBLED, TURNED), "ab" * 500), "aa" * 500 + "ba" * 500)


class Letters(unittest.TestCase):
    def test_dropped_puts_are_such_that_may_be_written(self):
        drops = plain_program("a", "", call(fun("x", T, END), put("q", END)))
        self.assertEqual(run(drops, "aa"), "")
        with self.assertRaises(Unread) as found:
            behind(drops, DOUBLED)
        self.assertEqual(found.exception.letter, "q")
        self.assertEqual(run(behind(drops, DROPPING), "aa"), "k")

    def test_the_least_letter(self):
        for words, unread in [(("c", "", "d"), "c"), (("z", "d", ""), "d"), (("", "", "x"), "x"), (("abz", "ab", "aby"), "y")]:
            value = plain_program("a", words[0], put(words[1], END), fun("x", T, put(words[2], n("x"))))
            with self.assertRaises(Unread) as found:
                behind(value, DOUBLED)
            self.assertEqual(found.exception.letter, unread)

    def test_puts_of_other_letters_do_not_matter(self):
        # TURNED has steps for a and b, but only b is put.
        told = behind(plain_program("a", "b"), TURNED)
        self.assertEqual(told, reference.behind(plain_program("a", "b"), TURNED))


class TooGreat(unittest.TestCase):
    def most(self, function, *values):
        come = told_or_most(function, *values)
        self.assertTrue(come == 400 or is_program(come))
        return come == 400

    def test_kinds(self):
        self.assertFalse(self.most(turned_in, great_program(15)))
        self.assertTrue(self.most(turned_in, great_program(16)))
        self.assertFalse(self.most(turned_out, great_program(15)))
        self.assertTrue(self.most(turned_out, great_program(16)))
        # 30 ends, and 31 or more.
        one, other = great_program(13), great_program(2)
        self.assertEqual(2 * 13 + 2 + 2, 30)
        self.assertFalse(self.most(both, one, other))
        self.assertTrue(self.most(both, great_program(13), great_program(3)))
        for first, second in [(10, 3), (8, 4), (7, 4), (6, 5), (30, 30), (30, 2), (30, 1), (15, 2), (16, 2)]:
            self.assertEqual(self.most(behind, great_program(first), great_program(second)), first * second > 30)

    def test_a_kind_within_a_step(self):
        # A fun in a step, of no consequence for the program's kind.
        wide = fun("w", texts_to(30), END)
        value = ("program", T, END, (("a", fun("x", T, call(fun("v", T, n("x")), call(wide, great_fun(30))))),), IDENTITY)
        self.assertIs(is_program(value), True)
        self.assertTrue(self.most(turned_out, value))
        self.assertFalse(self.most(turned_in, value))
        narrow = ("program", T, END, (("a", fun("x", T, call(fun("v", T, n("x")), call(fun("w", texts_to(28), END), great_fun(28))))),),
                  IDENTITY)
        self.assertFalse(self.most(turned_out, narrow))

    def test_nodes(self):
        def of_nodes(nodes):
            return plain_program("a", "", term_of_nodes(nodes))

        # The last term gets four nodes more and the nodes of init.
        self.assertEqual(reference.nodes(turned_in(of_nodes(394))[4]), 400)
        self.assertTrue(self.most(turned_in, of_nodes(395)))
        # Words for the letters of a row of puts.
        row = plain_program("ab", "", put("q" * 10, term_of_nodes(200)))
        self.assertFalse(self.most(relettered, row, (("q", "ab"),)))
        wide = plain_program("ab", "", call(fun("x", T, n("x")), put("q" * 19, term_of_nodes(2))))
        self.assertEqual(self.most(relettered, wide, (("q", "abc"),)), not is_program(reference.relettered(wide, (("q", "abc"),))))
        for size in range(185, 205):
            value = plain_program("a", "", call(fun("x", T, term_of_nodes(size)), term_of_nodes(397 - size)))
            self.assertEqual(self.most(relettered, value, (("b", "bb"),)),
                             not reference.is_program(reference.relettered(value, (("b", "bb"),))))
        # A word of many steps.
        step = fun("x", T, call(fun("y", T, n("y")), n("x")))
        value = ("program", T, END, (("a", step), ("b", fun("x", T, call(fun("y", T, term_of_nodes(30)), n("x"))))), IDENTITY)
        for many in range(8, 16):
            words = (("q", "b" * many),)
            self.assertEqual(self.most(read_as, value, words), not reference.is_program(reference.read_as(value, words)))
        self.assertEqual([self.most(read_as, value, (("q", "b" * many),)) for many in (11, 12)], [False, True])

    def test_rows(self):
        for many in range(50, 60):
            value = plain_program("a", "", put("b" * many, END))
            for function in (turned_in, turned_out, lambda told: behind(told, TURNED), lambda told: both(told, told)):
                self.most(function, value)
            self.assertEqual(self.most(turned_in, value), many + 1 + 3 > 60)
            self.assertEqual(self.most(relettered, value, (("b", "bb"),)), True)
            self.assertEqual(self.most(relettered, value, (("a", "bb"),)), False)
        for many in (28, 29, 30):
            value = plain_program("a", "", put("b" * many, END))
            self.assertEqual(self.most(relettered, value, (("b", "bb"),)), 2 * many + 1 > 60)
        value = ("program", T, END, (("a", fun("x", T, put("b" * 38, n("x")))), ("b", IDENTITY)), IDENTITY)
        # The fun, the calls, the fun of the last step, its puts and its name.
        for many in range(17, 21):
            self.assertEqual(self.most(read_as, value, (("q", "b" * (many - 1) + "a"),)), 1 + many + 1 + 38 + 1 > 60)

    def test_too_many_comes_last(self):
        self.assertRaises(BadWords, relettered, plain_program("a", "", put("b" * 59, END)), (("b", "bb"), ("a", "")))
        self.assertRaises(OtherLetters, both, great_program(30), plain_program("b"))
        self.assertRaises(Unread, behind, plain_program("a", "c", great_text()), great_program(30))


def great_text():
    return put("c" * 59, END)


def great_fun(many):
    body = END
    for at in range(many):
        body = fun(reference.name_of_end(at) + "q", T, body)
    return body


class Wrong(unittest.TestCase):
    def test_programs(self):
        for function in (turned_in, turned_out):
            refused(self, function, {"program": TURNED}, [("program", BadProgram, BAD_PROGRAM_VALUES)])
        refused(self, behind, {"first": DOUBLED, "second": TURNED},
                [("first", BadProgram, BAD_PROGRAM_VALUES), ("second", BadProgram, BAD_PROGRAM_VALUES),
                 ("second", (Unread, {"letter": "a"}), [DROPPING, plain_program("b"), plain_program("cz")])])
        refused(self, both, {"one": DOUBLED, "other": TURNED},
                [("one", BadProgram, BAD_PROGRAM_VALUES), ("other", BadProgram, BAD_PROGRAM_VALUES),
                 ("other", OtherLetters, [DROPPING, plain_program("a"), plain_program("abc")])])

    def test_words(self):
        bad = [*odd_values(), (("a",),), (("a", "b", "c"),), ("ab",), [("a", "b")], (["a", "b"],), (("a", 1),), (("a", None),),
               (("A", "a"),), (("ab", "a"),), (("", "a"),), (("b", "a"), ("a", "b")), (("a", "a"), ("a", "a")), (("a", "a" * 21),),
               (("a", "A"),), (("a", ["a"]),), (("a", ("a",)),), {"a": "b"}, ((1, "a"),), (("a", "a b"),),
               tuple((letter, "a") for letter in ALL) + (("z", "a"),)]
        refused(self, relettered, {"program": TURNED, "words": (("a", "xy" * 10), ("b", ""))},
                [("program", BadProgram, BAD_PROGRAM_VALUES), ("words", BadWords, bad)])
        refused(self, read_as, {"program": TURNED, "words": (("a", "ab" * 2), ("q", ""))},
                [("program", BadProgram, BAD_PROGRAM_VALUES),
                 ("words", BadWords, [*bad, (("a", "abc"),), (("c", "c"),), tuple((letter, "a") for letter in "abcde")])])
        self.assertTrue(is_program(relettered(TURNED, tuple((letter, letter) for letter in ALL))))
        self.assertTrue(is_program(read_as(plain_program("ab"), tuple((letter, "ab" * 10) for letter in "wxyz"))))
        self.assertTrue(is_program(relettered(plain_program("a", "b"), (("b", "c" * 20),))))

if __name__ == "__main__":
    unittest.main()
