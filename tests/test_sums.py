"""Points 56 and 57: sums of multiples by fractions, whatever numbers leave when they are divided by primes."""

import unittest

import reference
from oneuseheads.alltexts import first_apart, row_basis, writes_same
from oneuseheads.residues import PRIME, Wholes, fraction_of
from oneuseheads.sums import Span
from oneuseheads.walks import run
from samples import IDENTITY, Numbers, T, fun, n, put

# The prime of the package, other great primes, and products and powers of such.
GREAT = [PRIME, 2 ** 61 - 1, 2 ** 89 - 1, 2 ** 107 - 1, 2 ** 127 - 1, 10 ** 18 + 9, 998244353, 2 ** 31 - 1, 10 ** 9 + 7]
GREAT += [PRIME ** 2, PRIME ** 3, PRIME * (2 ** 61 - 1), PRIME * (10 ** 18 + 9) * (2 ** 89 - 1), PRIME ** 5 * 6, 2 ** 200, 3 ** 150]
SIGNS = "abcdefghijklmnopqrstuvwxyz"


def told(rows):
    """What a span tells of rows, one behind another; the rows stay as they are."""
    span = Span(len(rows[0]))
    held = [list(row) for row in rows]
    come = [span.add(row) for row in rows]
    assert held == rows
    return come


def by_fractions(rows):
    fractions = reference.Fractions()
    return [fractions.adds(dict(enumerate(row))) for row in rows]


def sum_of(rows, times):
    return [sum(number * row[at] for number, row in zip(times, rows)) for at in range(len(rows[0]))]


class Spans(unittest.TestCase):
    def check(self, rows):
        self.assertEqual(told(rows), by_fractions(rows), rows)

    def test_small_rows(self):
        self.assertEqual(told([[0, 0]]), [False])
        self.assertEqual(told([[0, 2], [0, 0], [0, 3], [5, 1], [7, 7]]), [True, False, False, True, False])
        numbers = Numbers(701)
        for _ in range(300):
            many = 1 + numbers.below(6)
            self.check([[numbers.below(5) - 2 for _ in range(many)] for _ in range(many + 3)])

    def test_unlike_by_a_great_whole(self):
        numbers = Numbers(702)
        for great in GREAT:
            self.assertEqual(told([[great, 0], [1, 0], [0, great], [0, 1]]), [True, False, True, False])
            self.assertEqual(told([[1, 1, 3], [1, 1 + great, 3], [1, 1, 3 + great], [5, 6, 7]]), [True, True, True, False])
            for _ in range(30):
                many = 2 + numbers.below(4)
                base = [[numbers.below(9) - 4 for _ in range(many)] for _ in range(many)]
                rows = []
                for row in base:
                    rows += [row, [number + great * (numbers.below(3) - 1) * (numbers.below(3) // 2) for number in row]]
                self.check(rows)
                self.check([[great * number for number in row] for row in base] + base)

    def test_unlike_by_a_product(self):
        # The rows are alike by every prime of the product, and by all of them at once.
        for length in (2, 4, 9):
            product = 1
            for great in GREAT[:length]:
                product *= great
            self.assertEqual(told([[3, 5], [3 + product, 5], [1, 0]]), [True, True, False])
            self.assertEqual(told([[1, 0, product], [1, product, 0], [0, product, -product], [0, 0, 1]]), [True, True, False, True])

    def test_sums_with_great_and_broken_times(self):
        numbers = Numbers(703)
        for _ in range(120):
            many = 3 + numbers.below(5)
            most = numbers.one_of([3, 50, 10 ** 9, 10 ** 30])
            rows = [[numbers.below(2 * most + 1) - most for _ in range(many)] for _ in range(many - 1)]
            some = rows[:1 + numbers.below(many - 1)]
            whole = sum_of(some, [numbers.below(2 * most + 1) - most for _ in some])
            common = numbers.one_of([1, 2, 3, 10, PRIME, most])
            broken = [number // common for number in whole] if all(number % common == 0 for number in whole) else whole
            parted = [number + numbers.one_of([0, 0, 1, PRIME, PRIME ** 4]) for number in whole]
            self.check(rows + [whole, broken, parted, whole, sum_of(rows + [parted], [1] * (len(rows) + 1))])

    def test_long_rows(self):
        # Many rows of which the last ones are sums that can be told by great fractions alone.
        numbers = Numbers(704)
        for many, wide in [(12, 20), (25, 30), (40, 41)]:
            rows = [[numbers.below(2001) - 1000 for _ in range(wide)] for _ in range(many)]
            span = [[numbers.below(3) - 1 for _ in range(many)] for _ in range(many + 6)]
            self.check([sum_of(rows, times) for times in span])

    def test_rules_are_found_and_given_up(self):
        # All rows keep some rules for long; then one comes that does not.
        numbers = Numbers(705)
        rows = []
        for _ in range(60):
            a, b, c = [numbers.below(10 ** 12) for _ in range(3)]
            rows.append([a, b, c, a + b, b - c, 2 * a, 3 * c, a + PRIME * b, 7])
        rows += [[1, 0, 0, 1, 0, 2, 0, 1 + PRIME, 0], [0, 0, 0, 0, 0, 0, 0, PRIME, 0], *rows[:3]]
        self.check(rows)


class Helpers(unittest.TestCase):
    def test_fractions(self):
        for up, down in [(0, 1), (1, 1), (-1, 1), (5, 7), (-1000, 999), (3, 2 ** 20)]:
            left = up * pow(down, -1, PRIME) % PRIME
            self.assertEqual(fraction_of(left, PRIME, 2 ** 20), (up, down))
        self.assertIsNone(fraction_of(PRIME // 3 + 12345678901, PRIME, 1000))

    def test_wholes(self):
        wholes = Wholes(4)
        rows = [[1, -2, 0, 3], [10 ** 40, -10 ** 40, 5, -1]]
        wholes.make_room(200)
        for row in rows:
            wholes.add(row)
            self.assertEqual(wholes.unpack(wholes.pack(row)), row)
        come = wholes.without(wholes.pack([0, 0, 0, 0]), [-7, 3])
        self.assertEqual(wholes.unpack(come), sum_of(rows, [7, -3]))
        wholes.make_room(1000)
        self.assertEqual(wholes.unpack(wholes.without(wholes.pack(rows[1]), [0, 1])), [0] * 4)


def worth(word):
    come = 0
    for letter in word:
        come = 27 * come + SIGNS.index(letter) + 1
    return come


def word_of(number):
    """The word with this worth, None if there is none."""
    word = ""
    while number:
        number, digit = divmod(number, 27)
        if digit == 0:
            return None
        word = SIGNS[digit - 1] + word
    return word


def pairs_of_words(great):
    """Some pairs of words of one length whose worths are unlike by a multiple of this whole."""
    found = []
    for length in range(2, 45):
        first = "a" * length
        for word in (first, "m" * length, "abcd" * 20):
            word = word[:length]
            for times in range(1, 200):
                other = word_of(worth(word) + times * great)
                if other is not None and len(other) == length and len(found) < 6:
                    found.append((word, other))
                    break
    return found


def program(one, other):
    steps = tuple((letter, fun("x", T, put(word, n("x")))) for letter, word in (("a", one), ("b", other)))
    return ("program", T, put(SIGNS, ("end",)), steps, IDENTITY)


class Words(unittest.TestCase):
    def test_words_unlike_by_a_multiple(self):
        seen = 0
        for great in [number for number in GREAT if number < 27 ** 40]:
            for word, other in pairs_of_words(great):
                self.assertEqual((worth(other) - worth(word)) % great, 0)
                one, two = program(word, other), program(word, word)
                self.assertEqual(first_apart(one, two), "b")
                self.assertEqual(first_apart(two, one), "b")
                self.assertIs(writes_same(one, two), False)
                self.assertNotEqual(run(one, "b"), run(two, "b"))
                for pair in [(one, two), (two, one), (one, one)]:
                    self.assertEqual(row_basis(*pair), ["", "a", "b"])
                self.assertEqual(row_basis(two, two), ["", "a"])
                self.assertIsNone(first_apart(one, one))
                seen += 1
        self.assertGreater(seen, 20)


if __name__ == "__main__":
    unittest.main()
