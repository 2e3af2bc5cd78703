"""Points 47 and 48: lengths of what is written on texts of one length, crossings, and rates."""

import unittest
from math import gcd

import reference
from drawn import drawn_programs, leading_program
from oneuseheads.errors import BadMany, BadProgram, TooMany
from oneuseheads.growth import greatest_rate, least_rate, longest, most_crossed, shortest
from oneuseheads.joining import both, turned_in
from oneuseheads.programs import is_program, letters
from oneuseheads.walks import run, walk
from samples import DOUBLED, DROPPING, END, FORGETTING, IDENTITY, Numbers, PROGRAMS, T, THERE_AND_BACK, TT, TURNED, call, copied
from samples import fun, n, odd_values, put, refused, texts_to, to
from test_alltexts import round_of_words, words_led
from test_boxes import led_round
from test_programs import BAD_PROGRAMS, great_program
from test_walks import programs

BAD_MANY = [*[value for value in odd_values() if type(value) is not int or not 0 <= value <= 200], True, False, -1, 201, 10 ** 29, "3", [3]]
BY_TEXT = (longest, shortest, most_crossed)
RATES = (greatest_rate, least_rate)


def all_programs(many=60):
    return [*PROGRAMS, *programs(25), *drawn_programs(Numbers(821), many)]


def texts_of(value, many):
    found = [""]
    for _ in range(many):
        found = [text + letter for text in found for letter in letters(value)]
    return found


def looks(value):
    """The numbers of fronts and of rears, by the links that texts have; None if they are great."""
    init, steps, last = reference.links_of_program(value)
    kind = value[1]
    tables = [{}, {}]
    for which in range(2):
        pending = [""]
        for text in pending:
            if which == 0:
                links = reference.left_links(kind, steps, last, text)
            else:
                links = rear_links(kind, dict(steps), init, text)
            shape = tuple((end, goal) for end, _, goal in links)
            if shape not in tables[which]:
                tables[which][shape] = text
                pending += [text + letter if which == 0 else letter + text for letter in letters(value)]
            if len(tables[which]) > 500:
                return None
    return len(tables[0]), len(tables[1])


def rear_links(kind, steps, init, text):
    """The table of what the steps of a text make of init, letter by letter from behind."""
    k, rows = reference.size(kind), reference.ends_of(kind)
    table = {end: (word, goal) for end, word, goal in init}
    for letter in text[::-1]:
        step = {end: (word, goal) for end, word, goal in steps[letter]}
        come, todo = {}, [k - 1]
        for end in todo:
            written, in_step, at = "", True, k + end
            while True:
                word, goal = step[at] if in_step else table[at]
                written += word
                if goal is None or in_step and goal >= k:
                    break
                in_step, at = not in_step, goal
            come[end] = (written, None if goal is None else goal - k)
            if goal is not None:
                todo += reference.parts_of(rows, goal - k)
        table = come
    return tuple(sorted((end, word, goal) for end, (word, goal) in table.items()))


class OfOneLength(unittest.TestCase):
    def test_examples(self):
        self.assertEqual(longest(DOUBLED, 3), (6, "aaa"))
        self.assertEqual(shortest(program=DOUBLED, many=3), (0, "bbb"))
        self.assertEqual(longest(program=TURNED, many=2), (2, "aa"))
        self.assertEqual(most_crossed(program=TURNED, many=2), (6, "aa"))
        self.assertEqual([function(DOUBLED, 0) for function in BY_TEXT], [(0, ""), (0, ""), (1, "")])
        self.assertEqual(longest(FORGETTING, 4), (6, "bbbb"))
        self.assertEqual(shortest(FORGETTING, 4), (2, "aaaa"))
        self.assertEqual(most_crossed(FORGETTING, 4), (5, "bbbb"))
        self.assertEqual(most_crossed(DROPPING, 7), (0, "qqqqqqq"))
        self.assertEqual(longest(THERE_AND_BACK, 2), (7, "aa"))
        self.assertEqual(shortest(THERE_AND_BACK, 2), (5, "bb"))

    def test_all_texts(self):
        seen = 0
        for value in all_programs():
            held = copied(value, {})
            for many in range(6 if len(letters(value)) < 3 else 4):
                texts = texts_of(value, many)
                lengths = [len(run(value, text)) for text in texts]
                crossings = [len(walk(value, text)[1]) for text in texts]
                wanted = [(max(lengths), texts[lengths.index(max(lengths))]), (min(lengths), texts[lengths.index(min(lengths))]),
                          (max(crossings), texts[crossings.index(max(crossings))])]
                self.assertEqual([function(value, many) for function in BY_TEXT], wanted)
                seen += len(set(lengths)) > 2
            self.assertEqual(value, held)
        self.assertGreater(seen, 40)

    def test_two_hundred_letters(self):
        self.assertEqual(longest(DOUBLED, 200), (400, "a" * 200))
        self.assertEqual(shortest(DOUBLED, 200), (0, "b" * 200))
        self.assertEqual(most_crossed(TURNED, 200), (402, "a" * 200))
        self.assertEqual(longest(THERE_AND_BACK, 200), (403, "a" * 200))
        self.assertEqual(shortest(THERE_AND_BACK, 200), (203, "b" * 200))
        self.assertEqual(longest(FORGETTING, 200), (202, "b" * 200))
        self.assertEqual(most_crossed(FORGETTING, 200), (201, "b" * 200))
        # The letter is written twice, and the words change places: so what is best is told from behind.
        led = words_led(2, [("a", "", [(1, "p"), (0, "")]), ("b", "", [(0, ""), (None, "qqq")])], 0, ["", "u"])
        for many in (7, 10):
            texts = texts_of(led, many)
            lengths = [len(run(led, text)) for text in texts]
            self.assertEqual(longest(led, many), (max(lengths), texts[lengths.index(max(lengths))]))
            self.assertEqual(shortest(led, many), (min(lengths), texts[lengths.index(min(lengths))]))
        for many in (199, 200):
            number, text = longest(led, many)
            self.assertEqual((len(text), len(run(led, text))), (many, number))

    def test_long_texts_are_written_so_long(self):
        for value in all_programs(40):
            for many in (11, 200):
                for function, sign in ((longest, 1), (shortest, -1)):
                    number, text = function(value, many)
                    self.assertEqual((len(text), len(run(value, text))), (many, number))
                    for other in (letters(value) * many, letters(value)[-1] * many, text[::-1]):
                        self.assertLessEqual(sign * len(run(value, other[:many])), sign * number)
                number, text = most_crossed(value, many)
                self.assertEqual((len(text), len(walk(value, text)[1])), (many, number))

    def test_texts_behind_one_another(self):
        # By hand: twice what doubling writes.
        two = both(DOUBLED, DOUBLED)
        self.assertEqual(longest(two, 50), (200, "a" * 50))
        self.assertEqual(shortest(two, 50), (0, "b" * 50))
        self.assertEqual(longest(turned_in(DOUBLED), 50), (100, "a" * 50))

    def test_wrong(self):
        bad = [*BAD_PROGRAMS, great_program(31)]
        for function in BY_TEXT:
            refused(self, function, {"program": TURNED, "many": 3}, [("program", BadProgram, bad), ("many", BadMany, BAD_MANY)])
            self.assertEqual(function(TURNED, 200)[1], "a" * 200)
            self.assertRaises(BadMany, function, TURNED, 201)
        for function in RATES:
            refused(self, function, {"program": TURNED}, [("program", BadProgram, bad)])


def checked_rate(test, value, most):
    """Checks both rates of a program by all texts up to some length, and by again many times."""
    texts = [text for many in range(most + 1) for text in texts_of(value, many)]
    for function, sign in ((greatest_rate, 1), (least_rate, -1)):
        top, bottom, stretch, spare = function(value)
        test.assertEqual((type(top), type(bottom), type(spare), type(stretch)), (int, int, int, tuple))
        test.assertTrue(bottom >= 1 and gcd(top, bottom) == 1)
        ahead, again, behind = stretch
        test.assertTrue(again and all(len(part) <= 400 and set(part) <= set(letters(value)) for part in stretch))
        sizes = [len(run(value, ahead + again * times + behind)) for times in (0, 1, 2, 3, 10, 11)]
        for one, other, times in zip(sizes, sizes[1:], (1, 1, 1, 7, 1)):
            test.assertEqual(bottom * (other - one), times * top * len(again))
        more = [sign * (bottom * len(run(value, text)) - top * len(text)) for text in texts]
        test.assertLessEqual(max(more), sign * spare)
        test.assertEqual(max(more), sign * spare, value)


class Rates(unittest.TestCase):
    def test_examples(self):
        top, bottom, _, spare = greatest_rate(DOUBLED)
        self.assertEqual((top, bottom, spare), (2, 1, 0))
        top, bottom, _, spare = least_rate(program=DOUBLED)
        self.assertEqual((top, bottom, spare), (0, 1, 0))
        for value, greatest, least in [(TURNED, (1, 1, 0), (1, 1, 0)), (FORGETTING, (1, 1, 2), (0, 1, 2)), (DROPPING, (0, 1, 1), (0, 1, 1)),
                                       (THERE_AND_BACK, (2, 1, 3), (1, 1, 3))]:
            for function, wanted in ((greatest_rate, greatest), (least_rate, least)):
                top, bottom, _, spare = function(value)
                self.assertEqual((top, bottom, spare), wanted)

    def test_all_texts(self):
        for value in all_programs():
            checked_rate(self, value, 6 if len(letters(value)) < 3 else 4)

    def test_broken_rates(self):
        # Three texts go round, and one of them gets letters each time: p letters in three.
        seen = set()
        for words in [("ppp", "", ""), ("p", "", ""), ("pp", "", ""), ("pp", "p", ""), ("ppppp", "p", "pp"), ("", "", "")]:
            value = words_led(3, [("a", "", [((at + 1) % 3, word) for at, word in enumerate(words)])])
            checked_rate(self, value, 12)
            total = sum(map(len, words))
            self.assertEqual(greatest_rate(value)[:2], (total // gcd(total, 3), 3 // gcd(total, 3)))
            self.assertEqual(least_rate(value)[:2], greatest_rate(value)[:2])
            seen.add(greatest_rate(value)[:2])
        self.assertEqual(len(seen), 5)
        for seed in range(12):
            checked_rate(self, leading_program(Numbers(seed), 3, "ab"), 8)

    def test_spare_of_short_texts(self):
        # Only the empty text has much more than its rate, only one long one.
        value = ("program", T, put("zzzzz", END), (("a", fun("x", T, put("a", END))), ("b", fun("x", T, put("b", n("x"))))), IDENTITY)
        self.assertEqual(greatest_rate(value), (1, 1, greatest_rate(value)[2], 5))
        self.assertEqual((least_rate(value)[:2], least_rate(value)[3]), ((0, 1), 1))
        words = round_of_words(["", "p", "pppp", "p", ""])
        self.assertEqual((greatest_rate(words)[:2], greatest_rate(words)[3]), ((0, 1), 4))
        self.assertEqual((least_rate(words)[:2], least_rate(words)[3]), ((0, 1), 0))

    def test_new_each_time_and_the_same(self):
        for value in all_programs(10):
            self.assertEqual(greatest_rate(value), greatest_rate(copied(value, {})))


class Looks(unittest.TestCase):
    def test_four_hundred_looks_and_more(self):
        seen = set()
        for value in [led_round([4, 5, 6], True), led_round([5, 7], True), led_round([4, 10, 10]), led_round([10, 10]), led_round([2, 10, 5]),
                      led_round([3, 5, 10], True), led_round([19, 5]), led_round([20, 4]), led_round([5, 8, 5]), led_round([8, 8, 6]),
                      led_round([9, 11]), led_round([8, 5, 10]), led_round([8, 5, 10], True), led_round([11, 13])]:
            many = looks(value)
            if many is None or many[0] * many[1] > 400:
                for function in BY_TEXT:
                    for letters_told in (0, 200):
                        with self.assertRaises(TooMany) as found:
                            function(value, letters_told)
                        self.assertEqual(found.exception.most, 400)
                    self.assertRaises(BadMany, function, value, 201)
                for function in RATES:
                    with self.assertRaises(TooMany) as found:
                        function(value)
                    self.assertEqual(found.exception.most, 400)
                seen.add("more")
            else:
                for function in BY_TEXT:
                    self.assertEqual(len(function(value, 30)[1]), 30)
                for function in RATES:
                    self.assertEqual(len(function(value)), 4)
                seen.add(many)
        self.assertIn("more", seen)
        self.assertIn((8 * 5 * 10, 1), seen)

    def test_pairs_of_fronts_and_rears(self):
        # Just 400 looks, and just more, by fronts and rears together.
        for circles, many, fits in [([5, 8], 10, True), ([4, 5], 13, True), ([5, 9], 9, False), ([6, 7], 10, False), ([4, 10], 10, True)]:
            value = fronts_and_rears(circles, many)
            self.assertEqual(looks(value), (circles[0] * circles[1], many))
            for function in RATES:
                if fits:
                    checked_short_rate(self, value, function)
                else:
                    self.assertRaises(TooMany, function, value)
            for function in BY_TEXT:
                if fits:
                    number, text = function(value, 200)
                    self.assertEqual(len(text), 200)
                    self.assertEqual(number, len(walk(value, text)[1]) if function is most_crossed else len(run(value, text)))
                else:
                    self.assertRaises(TooMany, function, value, 0)


def checked_short_rate(test, value, function):
    top, bottom, (ahead, again, behind), _ = function(value)
    sizes = [len(run(value, ahead + again * times + behind)) for times in range(3)]
    test.assertEqual(bottom * (sizes[1] - sizes[0]), top * len(again))
    test.assertEqual(bottom * (sizes[2] - sizes[1]), top * len(again))


def fronts_and_rears(circles, many):
    """A program with two letters that lead what functions are handed round in circles, seen from ahead, and one letter
    that leads so many texts round, of which init takes the first: seen from behind."""
    words = ["w" + reference.name_of_end(at) for at in range(many)]
    kinds = [T] * many + [TT] + [texts_to(length) for length in circles]
    names = [*words, "h", "p", "q"]
    kind = to(*kinds, T)

    def funs(told, its, inner):
        for name, one in reversed(list(zip(told, its, strict=True))):
            inner = fun(name, one, inner)
        return inner

    def turned(name, length):
        own = ["x" + reference.name_of_end(at) for at in range(length)]
        return funs(own, [T] * length, call(n(name), *[n(own[(at + 1) % length]) for at in range(length)]))

    def step(exchanged):
        handed = [exchanged.get(name, n(name)) for name in names]
        return fun("v", kind, funs(names, kinds, call(n("v"), *handed)))

    steps = [step({"p": turned("p", circles[0])}), step({"q": turned("q", circles[1])}),
             step({name: n(words[(at + 1) % many]) for at, name in enumerate(words)})]
    first = [funs(["x" + reference.name_of_end(at) for at in range(length)], [T] * length, n("xa")) for length in circles]
    begun = [put("u" * (at % 3), END) for at in range(many)]
    last = fun("v", kind, call(n("v"), *begun, fun("x", T, put("m", n("x"))), *first))
    value = ("program", kind, funs(names, kinds, call(n("h"), n(words[0]))), tuple(zip("abc", steps, strict=True)), last)
    assert is_program(value)
    return value


if __name__ == "__main__":
    unittest.main()
