"""Points 37 to 39: least and greatest numbers of letters, over all texts."""

import unittest

import reference
from oneuseheads.bounds import always_written, bounded_letters, least_written, most_written, never_written, text_with
from oneuseheads.errors import BadLetter, BadNumber, BadProgram, TooMany
from oneuseheads.heads import head_of, program_of
from oneuseheads.joining import both, turned_in
from oneuseheads.programs import is_program, letters
from oneuseheads.walks import run
from samples import DOUBLED, DROPPING, END, FORGETTING, IDENTITY, PROGRAMS, T, TURNED, call, copied, fun
from samples import n, odd_values, put, refused, texts_to, to
from test_alike import all_texts
from test_alltexts import round_of_words, words_led
from test_boxes import led_round
from test_programs import BAD_PROGRAMS, great_program
from test_walks import passing_program, programs

ALL = "abcdefghijklmnopqrstuvwxyz"
BAD_LETTERS = [*[value for value in odd_values() if value not in ("a", "x")], "ab", "A", "", " ", ["a"], ("a",), "aa", "?"]


def bounds_programs():
    found = [*programs(70, 6), led_round([3, 4], True), led_round([2, 3, 2]), round_of_words(["a", "bb", "ca", ""]),
             round_of_words(["ab", "", "abab"], "ab"), passing_program(28, "b"), words_led(2, [("a", "p", [(1, "q"), (0, "")])])]
    found.extend([now_and_then(3), now_and_then(5)])
    # Each step writes, and forgets what was written ahead of it.
    found.append(words_led(2, [("a", "", [(1, "p"), (None, "")]), ("b", "", [(None, "q"), (0, "p")])], 0, ["r", "rr"]))
    return found


def now_and_then(many):
    """A program that writes a p for each so many letters: it leads a function of so many texts round."""
    inner = texts_to(many)
    kind = to(inner, T)
    names = ["x" + ALL[at] for at in range(many)]
    led = call(n("g"), put("p", n(names[1])), *[n(names[at % many]) for at in range(2, many + 1)])
    last = n(names[0])
    for name in reversed(names):
        led, last = fun(name, T, led), fun(name, T, last)
    step = fun("f", kind, fun("g", inner, call(n("f"), led)))
    init = fun("g", inner, call(n("g"), *[END] * many))
    return ("program", kind, init, (("a", step),), fun("f", kind, call(n("f"), last)))


def written_on_texts(value, most, known={}):
    """What is written on all texts up to a length, by the walk over the links of the normal forms, found just once."""
    if (value, most) not in known:
        init, steps, last = reference.links_of_program(value)
        known[value, most] = ["".join(letter for letter, _ in reference.walk(value[1], init, steps, last, text)[1])
                              for text in all_texts(value, most)]
    return known[value, most]


def numbers(value, letter, most):
    return [written.count(letter) for written in written_on_texts(value, most)]


def wanted_length(value):
    return {1: 9, 2: 6, 3: 4, 4: 3}[len(letters(value))]


class LeastAndMost(unittest.TestCase):
    def test_examples(self):
        self.assertEqual(least_written(TURNED, "a")[0], 0)
        self.assertIsNone(most_written(program=TURNED, letter="a"))
        self.assertEqual(most_written(DOUBLED, "b")[0], 0)
        self.assertEqual(least_written(program=FORGETTING, letter="z")[0], 1)
        self.assertEqual(most_written(FORGETTING, "z")[0], 1)
        self.assertEqual(most_written(FORGETTING, "a")[0], 1)
        self.assertIn("a", most_written(FORGETTING, "a")[1])
        number, text = least_written(FORGETTING, "c")
        self.assertEqual(number, 0)
        self.assertIn("a", text)
        number, text = most_written(FORGETTING, "c")
        self.assertEqual(number, 1)
        self.assertNotIn("a", text)
        self.assertEqual(least_written(DROPPING, "k")[0], 1)
        self.assertEqual(most_written(DROPPING, "k")[0], 1)
        # What stands nowhere.
        for value in PROGRAMS:
            for told in (least_written(value, "y"), most_written(value, "y")):
                self.assertEqual(told[0], 0)
                self.assertTrue(all(letter in letters(value) for letter in told[1]))

    def test_rounds(self):
        value = round_of_words(["aab", "b", "aaaaab", "ab"])
        number, text = least_written(value, "a")
        self.assertEqual((number, len(text) % 4), (0, 1))
        number, text = most_written(value, "a")
        self.assertEqual((number, len(text) % 4), (5, 2))
        self.assertEqual((least_written(value, "b")[0], most_written(value, "b")[0]), (1, 1))
        self.assertEqual(least_written(both(value, TURNED_ON_A), "a"), (2, "a"))
        self.assertIsNone(most_written(both(value, TURNED_ON_A), "a"))

    def test_against_all_texts(self):
        seen = {True: 0, False: 0}
        for value in bounds_programs():
            held = copied(value, {})
            for letter in [*reference.letters_put(value), "y"]:
                told = numbers(value, letter, wanted_length(value))
                for found in (least_written(value, letter), most_written(value, letter)):
                    if found is not None:
                        self.assertIs(type(found), tuple)
                        self.assertEqual(run(value, found[1]).count(letter), found[0])
                least, most = least_written(value, letter), most_written(value, letter)
                self.assertLessEqual(least[0], min(told))
                if len(least[1]) <= wanted_length(value):
                    self.assertEqual(least[0], min(told))
                if most is not None:
                    self.assertGreaterEqual(most[0], max(told))
                    if len(most[1]) <= wanted_length(value):
                        self.assertEqual(most[0], max(told))
                else:
                    self.check_without_end(value, letter)
                seen[most is None] += 1
            self.assertEqual(value, held)
        self.assertGreater(min(seen.values()), 15)

    def check_without_end(self, value, letter):
        """On some texts the letter is written as often as one likes."""
        text = text_with(value, letter, 60)
        self.assertGreaterEqual(run(value, text).count(letter), 60)

    def test_greatest_numbers_do_not_grow(self):
        for value in bounds_programs():
            for letter in reference.letters_put(value):
                most = most_written(value, letter)
                if most is not None and most[0] < 60:
                    self.assertIsNone(text_with(value, letter, most[0] + 1))
                    self.assertGreaterEqual(run(value, text_with(value, letter, most[0])).count(letter), most[0])

    def test_of_long_texts(self):
        # The number grows with the length, up to 26, and then never again.
        value = filling(27)
        self.assertEqual(most_written(value, "p")[0], 26)
        self.assertEqual(least_written(value, "p")[0], 0)
        self.assertEqual([run(value, "a" * many).count("p") for many in (0, 1, 25, 26, 27, 60)], [0, 1, 25, 26, 26, 26])

    def test_few_steps_of_a_round_write(self):
        for many in (3, 4, 7):
            value = now_and_then(many)
            self.assertEqual([run(value, "a" * length) for length in range(1, 2 * many + 1)],
                             ["p"] * many + ["pp"] * many)
            self.assertIsNone(most_written(value, "p"))
            self.assertEqual(least_written(value, "p"), (0, ""))
            self.assertGreaterEqual(run(value, text_with(value, "p", 60)).count("p"), 60)
            self.assertEqual(bounded_letters(value), without("p"))

    def test_other_terms_for_the_same(self):
        for value in programs(30, 4):
            come = program_of(head_of(value))
            for letter in reference.letters_put(value):
                self.assertEqual(least_written(value, letter)[0], least_written(come, letter)[0])
                one, other = most_written(value, letter), most_written(come, letter)
                self.assertEqual(one is None, other is None)
                if one is not None:
                    self.assertEqual(one[0], other[0])
                    self.assertEqual(most_written(turned_in(come), letter)[0], one[0])


TURNED_ON_A = ("program", T, END, (("a", fun("x", T, put("a", n("x")))),), fun("x", T, put("a", n("x"))))


def filling(many):
    """Behind each letter the word of one place is one p longer than the one ahead of it; init writes the last one."""
    return words_led(many, [("a", "", [(None, "") if at == 0 else (at - 1, "p") for at in range(many)])], many - 1)


class TextWith(unittest.TestCase):
    def test_examples(self):
        self.assertEqual(run(TURNED, text_with(program=TURNED, letter="b", many=3)).count("b"), 3)
        self.assertIn(run(DOUBLED, text_with(DOUBLED, "a", 3)).count("a"), [4])
        self.assertIsNone(text_with(DOUBLED, "b", 1))
        self.assertIsNotNone(text_with(DOUBLED, "b", 0))
        self.assertIsNone(text_with(FORGETTING, "a", 2))
        self.assertIsNotNone(text_with(FORGETTING, "a", 1))
        self.assertIsNotNone(text_with(DROPPING, "k", 1))
        self.assertIsNone(text_with(DROPPING, "k", 2))
        self.assertIsNone(text_with(TURNED, "y", 1))
        self.assertIsNotNone(text_with(TURNED, "y", 0))
        self.assertGreaterEqual(run(DOUBLED, text_with(DOUBLED, "a", 60)).count("a"), 60)

    def test_against_all_texts(self):
        for value in bounds_programs():
            for letter in [*reference.letters_put(value), "y"]:
                most = max(numbers(value, letter, wanted_length(value)))
                for many in (0, 1, 2, 3, 5, 17, 60):
                    told = text_with(value, letter, many)
                    if told is None:
                        self.assertGreater(many, most)
                        found = most_written(value, letter)
                        self.assertTrue(found is not None and found[0] < many)
                    else:
                        self.assertGreaterEqual(run(value, told).count(letter), many)

    def test_wrong(self):
        bad = [-1, 61, True, False, None, "1", 1.0, (1,), [1], 10 ** 29, "", {}]
        refused(self, text_with, {"program": TURNED, "letter": "a", "many": 60},
                [("program", BadProgram, [*BAD_PROGRAMS, great_program(31)]), ("letter", BadLetter, BAD_LETTERS),
                 ("many", BadNumber, bad)])
        for function in (least_written, most_written):
            refused(self, function, {"program": TURNED, "letter": "a"},
                    [("program", BadProgram, [*BAD_PROGRAMS, great_program(31)]), ("letter", BadLetter, BAD_LETTERS)])


class Letters(unittest.TestCase):
    def test_examples(self):
        self.assertEqual([never_written(value) for value in PROGRAMS],
                         [without("ab"), without("a"), without("abcz"), without("k"), without("abmst")])
        self.assertEqual([always_written(value) for value in PROGRAMS], ["", "", "z", "k", "mst"])
        self.assertEqual([bounded_letters(value) for value in PROGRAMS],
                         [without("ab"), without("a"), without("b"), ALL, without("ab")])
        self.assertEqual(never_written(program=TURNED), without("ab"))
        self.assertEqual(always_written(program=FORGETTING), "z")
        self.assertEqual(bounded_letters(program=DROPPING), ALL)
        rounds = round_of_words(["ab", "ac", "ad"])
        self.assertEqual((never_written(rounds), always_written(rounds), bounded_letters(rounds)), (without("abcd"), "a", ALL))
        # A put that is always dropped.
        value = ("program", T, call(fun("x", T, END), put("q", END)), (("a", IDENTITY),), IDENTITY)
        self.assertEqual(never_written(value), ALL)

    def test_against_the_numbers(self):
        for value in bounds_programs():
            never, always, bounded = never_written(value), always_written(value), bounded_letters(value)
            for letter in [*reference.letters_put(value), "y"]:
                most = most_written(value, letter)
                self.assertEqual(letter in never, most is not None and most[0] == 0)
                self.assertEqual(letter in always, least_written(value, letter)[0] > 0)
                self.assertEqual(letter in bounded, most is not None)
            for told in (never, always, bounded):
                self.assertEqual(told, "".join(sorted(set(told))))
            for written in written_on_texts(value, wanted_length(value)):
                self.assertFalse(any(letter in written for letter in never))
                self.assertTrue(all(letter in written for letter in always))

    def test_wrong(self):
        for function in (never_written, always_written, bounded_letters):
            refused(self, function, {"program": TURNED}, [("program", BadProgram, [*BAD_PROGRAMS, great_program(31)])])


def without(told):
    return "".join(letter for letter in ALL if letter not in told)


class TooManyTables(unittest.TestCase):
    def functions(self, value, letter):
        return [lambda: least_written(value, letter), lambda: most_written(value, letter), lambda: text_with(value, letter, 3),
                lambda: never_written(value), lambda: always_written(value), lambda: bounded_letters(value)]

    def check(self, value, is_most):
        # By the same count, whatever the letter.
        for letter in "lyo":
            for function in self.functions(value, letter):
                if is_most:
                    with self.assertRaises(TooMany) as found:
                        function()
                    self.assertEqual(found.exception.most, 60)
                else:
                    function()

    def test_left_tables(self):
        self.assertEqual(len(reference.fronts(led_round([3, 4, 5]))[1]), 60)
        self.check(led_round([3, 4, 5]), False)
        self.check(led_round([3, 4, 5], True), True)
        self.check(led_round([7, 9]), True)
        self.check(led_round([7, 8]), False)

    def test_right_tables(self):
        for many in (3, 5):
            for forgets in (False, True):
                value = led_triples(many, forgets)
                told = many * (many - 1) * (many - 2) + forgets
                self.assertEqual(len(right_shapes(value)), told)
                self.check(value, told > 60)

    def test_wrong_letters_come_first(self):
        value = led_round([7, 9])
        self.assertRaises(BadLetter, least_written, value, "A")
        self.assertRaises(BadLetter, text_with, value, "", 61)
        self.assertRaises(BadNumber, text_with, value, "a", 61)


def right_shapes(value):
    """The shapes of the right tables, by the tables of the terms themselves."""
    _, kind, init, steps, _ = value
    shapes = {}
    texts = [""]
    for text in texts:
        come = init
        for letter in text[::-1]:
            come = reference.normal(call(dict(steps)[letter], come))
        shape = tuple((end, goal) for end, _, goal in reference.table_by_normal_form(come, kind))
        if shape not in shapes:
            shapes[shape] = text
            texts += [letter + text for letter, _ in steps]
    return shapes


def led_triples(many, forgets):
    """A program whose right tables tell which three of many texts a function is handed, and in which order."""
    three = texts_to(3)
    kind = to(three, *[T] * many, T)
    names = ["x" + ALL[at] for at in range(many)]

    def bound(body):
        for name in reversed(names):
            body = fun(name, T, body)
        return fun("g", three, body)

    def step(order):
        return fun("f", kind, bound(call(n("f"), n("g"), *[n(names[at]) for at in order])))

    steps = [("a", step([(at + 1) % many for at in range(many)])), ("b", step([1, 0, *range(2, many)]))]
    if forgets:
        steps.append(("c", fun("f", kind, bound(put("o", END)))))
    init = bound(call(n("g"), *[n(name) for name in names[:3]]))
    last = fun("f", kind, call(n("f"), fun("p", T, fun("q", T, fun("r", T, put("l", n("p"))))), *[put("l", END)] * many))
    value = ("program", kind, init, tuple(steps), last)
    assert is_program(value)
    return value


if __name__ == "__main__":
    unittest.main()
