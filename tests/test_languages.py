"""Point 53: machines."""

import unittest
from itertools import product

import reference
from oneuseheads.errors import BadMachine, BadNumber, BadText, BadWord, OtherLetters, TooMany
from oneuseheads.languages import combined, contrary, first_text, is_machine, least_machine, led_on, lets, texts_of_length
from samples import Numbers, TURNED, odd_values, refused, spoiled

ALL = "abcdefghijklmnopqrstuvwxyz"
EVEN = ("machine", "ab", ((1, 0), (0, 1)), (0,))
ONE = ("machine", "a", ((0,),), (0,))


def right_machine(value):
    """Whether value is a machine, by the words of the document."""
    if type(value) is not tuple or len(value) != 4 or type(value[0]) is not str or value[0] != "machine":
        return False
    _, letters, rows, good = value
    if type(letters) is not str or not 1 <= len(letters) <= 26 or any(sign not in ALL for sign in letters):
        return False
    if list(letters) != sorted(set(letters)) or type(rows) is not tuple or not 1 <= len(rows) <= 400:
        return False

    def is_state(number):
        return type(number) is int and 0 <= number < len(rows)

    if any(type(row) is not tuple or len(row) != len(letters) or not all(map(is_state, row)) for row in rows):
        return False
    return type(good) is tuple and all(map(is_state, good)) and list(good) == sorted(set(good))


def round_of(many, letters="a", good=(0,)):
    """The machine that tells how many letters there are, but for what is left out with so many at a time."""
    return ("machine", letters, tuple(((at + 1) % many,) * len(letters) for at in range(many)), good)


def just_of_length(length):
    """The machine that lets the text of a with this length alone: it has two states more."""
    rows = tuple((min(at + 1, length + 1),) for at in range(length + 2))
    return ("machine", "a", rows, (length,))


def machines(many=60, most=8):
    numbers = Numbers(101)
    found = [EVEN, ONE]
    for _ in range(many):
        letters = numbers.one_of(["a", "ab", "ab", "abc", "xz"])
        found.append(made_machine(numbers, letters, 1 + numbers.below(most)))
    return found


def made_machine(numbers, letters, states):
    rows = tuple(tuple(numbers.below(states) for _ in letters) for _ in range(states))
    return ("machine", letters, rows, tuple(state for state in range(states) if numbers.below(3) == 0))


def all_texts(letters, most):
    for length in range(most + 1):
        for signs in product(letters, repeat=length):
            yield "".join(signs)


def state_behind(machine, text, state=0):
    for letter in text:
        state = machine[2][state][machine[1].index(letter)]
    return state


BAD_MACHINES = [*odd_values(), TURNED, list(EVEN), EVEN[:3], EVEN + ((),), ("machine", "", ((),), ()), ("machine", "ab", (), ()),
                ("machine", "ba", ((0, 0),), ()), ("machine", "aa", ((0, 0),), ()), ("machine", "aB", ((0, 0),), ()),
                ("machine", ("a", "b"), ((0, 0),), ()), ("machine", "ab", [(0, 0)], ()), ("machine", "ab", ([0, 0],), ()),
                ("machine", "ab", ((0,),), ()), ("machine", "ab", ((0, 0, 0),), ()), ("machine", "ab", ((0, 1),), ()),
                ("machine", "ab", ((0, -1),), ()), ("machine", "ab", ((0, False),), ()), ("machine", "ab", ((0, None),), ()),
                ("machine", "ab", ((0, 0),), [0]), ("machine", "ab", ((0, 0),), (1,)), ("machine", "ab", ((0, 0),), (0, 0)),
                ("machine", "ab", ((0, 0), (0, 0)), (1, 0)), ("machine", "ab", ((0, 0),), (False,)), ("machine", "a b", ((0, 0, 0),), ()),
                ("machine", "ab", ((0, 0), (0, 0)), (0, True)), ("machine", "ab", ((0, 0),), {0: 0}), ("machine", "ab", ((0, "0"),), ()),
                round_of(401), round_of(1000)]
WORDS = ["both", "either", "first"]


class IsMachine(unittest.TestCase):
    def test_machines(self):
        for value in [*machines(), round_of(400), ("machine", ALL, ((0,) * 26,), ()), ("machine", "z", ((1,), (0,)), (0, 1))]:
            self.assertIs(is_machine(value), True)
            self.assertIs(is_machine(value=value), True)
            self.assertTrue(right_machine(value))

    def test_no_machines(self):
        for value in BAD_MACHINES:
            self.assertIs(is_machine(value), False, value)

    def test_wrong_in_one_place(self):
        for value in machines(8, 4):
            for other in spoiled(value):
                self.assertIs(is_machine(other), right_machine(other), other)


class Reads(unittest.TestCase):
    def test_lets(self):
        self.assertIs(lets(EVEN, ""), True)
        self.assertIs(lets(machine=EVEN, text="abb"), False)
        for machine in machines():
            for text in all_texts(machine[1], 4):
                self.assertIs(lets(machine, text), state_behind(machine, text) in machine[3])

    def test_led_on(self):
        self.assertEqual(led_on(EVEN, ""), [0, 1])
        self.assertEqual(led_on(machine=EVEN, text="bba"), [1, 0])
        for machine in machines():
            for text in all_texts(machine[1], 3):
                told = led_on(machine, text)
                self.assertIsInstance(told, list)
                self.assertEqual(told, [state_behind(machine, text, state) for state in range(len(machine[2]))])

    def test_long_texts(self):
        self.assertIs(lets(EVEN, "ab" * 100000), True)
        self.assertIs(lets(EVEN, "ab" * 100000 + "a"), True if 100001 % 2 == 0 else False)
        self.assertEqual(led_on(round_of(400), "a" * 10001), [(at + 10001) % 400 for at in range(400)])

    def test_new(self):
        one = led_on(EVEN, "a")
        one.append(7)
        self.assertEqual(led_on(EVEN, "a"), [1, 0])

    def test_wrong(self):
        bad = [value for value in odd_values() if value not in ("", "a")] + ["abc", "A", "a b", ["a"], ("a",), "ab\n", "c"]
        for function in (lets, led_on):
            refused(self, function, {"machine": EVEN, "text": "ab"}, [("machine", BadMachine, BAD_MACHINES), ("text", BadText, bad)])
        self.assertRaises(BadText, lets, ONE, "b")
        self.assertRaises(BadText, led_on, ("machine", "b", ((0,),), ()), "a")


class Least(unittest.TestCase):
    def test_examples(self):
        self.assertEqual(least_machine(EVEN), EVEN)
        self.assertEqual(least_machine(machine=("machine", "a", ((1,), (0,), (2,)), (0, 1, 2))), ONE)
        self.assertEqual(least_machine(("machine", "a", ((0,),), ())), ("machine", "a", ((0,),), ()))
        # State 0 is where it begins, and the states are numbered as they are met.
        self.assertEqual(least_machine(("machine", "ab", ((2, 1), (1, 2), (1, 1)), (1,))),
                         ("machine", "ab", ((1, 2), (2, 2), (2, 1)), (2,)))
        self.assertEqual(contrary(EVEN), ("machine", "ab", ((1, 0), (0, 1)), (1,)))
        self.assertEqual(contrary(machine=ONE), ("machine", "a", ((0,),), ()))

    def test_as_told_by_the_rules(self):
        for machine in machines(150):
            self.assertEqual(least_machine(machine), reference.least_machine(machine))
            _, letters, rows, good = machine
            others = tuple(state for state in range(len(rows)) if state not in good)
            self.assertEqual(contrary(machine), reference.least_machine(("machine", letters, rows, others)))

    def test_lets_the_same_texts(self):
        for machine in machines():
            least, against = least_machine(machine), contrary(machine)
            self.assertIs(is_machine(least), True)
            self.assertIs(is_machine(against), True)
            self.assertEqual((least[1], against[1]), (machine[1], machine[1]))
            for text in all_texts(machine[1], 6):
                self.assertIs(lets(least, text), lets(machine, text))
                self.assertIs(lets(against, text), not lets(machine, text))
            self.assertEqual(contrary(against), least)
            self.assertEqual(least_machine(least), least)

    def test_other_machines_for_the_same_texts(self):
        numbers = Numbers(103)
        for machine in machines():
            _, letters, rows, good = machine
            # Each state twice, and led to the one or the other of both.
            many = len(rows)
            twice = tuple(tuple(goal + many * numbers.below(2) for goal in rows[state % many]) for state in range(2 * many))
            other = ("machine", letters, twice, (*good, *[state + many for state in good]))
            self.assertEqual(least_machine(other), least_machine(machine))

    def test_many_states(self):
        self.assertEqual(least_machine(round_of(400)), round_of(400))
        self.assertEqual(least_machine(round_of(400, "a", tuple(range(0, 400, 8)))), round_of(8))
        self.assertEqual(least_machine(just_of_length(398)), just_of_length(398))
        self.assertEqual(contrary(just_of_length(398))[3], (*range(398), 399))
        self.assertEqual(least_machine(round_of(300, ALL)), round_of(300, ALL))

    def test_wrong(self):
        for function in (least_machine, contrary, first_text):
            refused(self, function, {"machine": EVEN}, [("machine", BadMachine, BAD_MACHINES)])


class Combined(unittest.TestCase):
    def test_examples(self):
        odd = ("machine", "ab", ((1, 1), (0, 0)), (1,))
        self.assertEqual(combined("both", EVEN, odd), ("machine", "ab", ((1, 2), (0, 3), (3, 0), (2, 1)), (2,)))
        self.assertEqual(combined(word="first", one=EVEN, other=EVEN), ("machine", "ab", ((0, 0),), ()))
        self.assertEqual(combined("either", EVEN, contrary(EVEN)), ("machine", "ab", ((0, 0),), (0,)))

    def test_as_told_by_the_rules(self):
        numbers = Numbers(107)
        for at in range(80):
            letters = numbers.one_of(["a", "ab", "abc"])
            one, other = [made_machine(numbers, letters, 1 + numbers.below(6)) for _ in range(2)]
            for word in WORDS:
                told = combined(word, one, other)
                self.assertEqual(told, reference.least_machine(told))
                self.assertIs(is_machine(told), True)
                for text in all_texts(letters, 5):
                    first, second = lets(one, text), lets(other, text)
                    wanted = {"both": first and second, "either": first or second, "first": first and not second}[word]
                    self.assertIs(lets(told, text), wanted, (word, one, other, text))
                self.assertEqual(told, reference.combined(word, one, other))

    def test_many_states(self):
        self.assertEqual(len(combined("both", round_of(16), round_of(25))[2]), 400)
        # What comes may have more states on the way.
        self.assertEqual(combined("first", round_of(399), round_of(400, "a", tuple(range(400)))), ("machine", "a", ((0,),), ()))
        self.assertEqual(combined("both", just_of_length(398), round_of(399)), ("machine", "a", ((0,),), ()))
        odd = ("machine", "a", ((1,), (0,)), (1,))
        self.assertEqual(len(combined("either", just_of_length(396), odd)[2]), 399)
        self.assertEqual(len(combined("either", odd, just_of_length(396))[2]), 399)
        for word, one, other in [("either", just_of_length(398), odd), ("both", round_of(20), round_of(21)),
                                 ("both", round_of(399), round_of(400)), ("either", round_of(399), round_of(2))]:
            with self.assertRaises(TooMany) as found:
                combined(word, one, other)
            self.assertEqual(found.exception.most, 400)
        self.assertEqual(len(combined("both", round_of(20), round_of(20, "a", (0, 1)))[2]), 20)

    def test_just_the_border(self):
        # There are as many states as there are letters in the one text, one more, and those of the round.
        for length, many in [(395, 4), (395, 3), (394, 4), (2, 3), (395, 2)]:
            if length % many:
                told = combined("either", just_of_length(length), round_of(many))
                self.assertEqual(len(told[2]), length + 1 + many)
                self.assertEqual(told, reference.combined("either", just_of_length(length), round_of(many)))
        for length, many in [(397, 3), (397, 4), (395, 6), (398, 5)]:
            self.assertRaises(TooMany, combined, "either", just_of_length(length), round_of(many))
            self.assertRaises(TooMany, combined, "either", round_of(many), just_of_length(length))

    def test_wrong(self):
        bad = [value for value in odd_values()] + ["Both", "one", "other", "and", ("both",), ["first"], "both ", "either\n"]
        refused(self, combined, {"word": "both", "one": EVEN, "other": EVEN},
                [("word", BadWord, bad), ("one", BadMachine, BAD_MACHINES), ("other", BadMachine, BAD_MACHINES),
                 ("other", OtherLetters, [ONE, ("machine", "abc", ((0, 0, 0),), (0,)), ("machine", "ac", ((0, 0),), ())])])
        # Unlike letters are told ahead of too many states.
        self.assertRaises(OtherLetters, combined, "both", round_of(399), round_of(400, "b"))


class Finds(unittest.TestCase):
    def test_first_text(self):
        self.assertEqual(first_text(EVEN), "")
        self.assertEqual(first_text(contrary(EVEN)), "a")
        self.assertIsNone(first_text(machine=("machine", "a", ((0,),), ())))
        self.assertIsNone(first_text(("machine", "a", ((0,), (1,)), (1,))))
        self.assertEqual(first_text(just_of_length(398)), "a" * 398)
        self.assertEqual(first_text(("machine", "abc", ((0, 2, 1), (1, 1, 3), (2, 3, 2), (3, 3, 3)), (3,))), "bb")
        for machine in machines(200):
            told = first_text(machine)
            found = [text for text in all_texts(machine[1], 6) if lets(machine, text)]
            if found:
                self.assertEqual(told, found[0])
            elif told is not None:
                self.assertGreater(len(told), 6)
                self.assertIs(lets(machine, told), True)
            else:
                self.assertEqual(least_machine(machine)[3], ())

    def test_texts_of_length(self):
        self.assertEqual([texts_of_length(EVEN, length) for length in range(5)], [1, 1, 2, 4, 8])
        self.assertEqual(texts_of_length(machine=EVEN, length=1000), 2 ** 999)
        self.assertEqual(texts_of_length(("machine", ALL, ((0,) * 26,), (0,)), 1000), 26 ** 1000)
        self.assertEqual([texts_of_length(round_of(400), length) for length in (0, 399, 400, 800, 1000)], [1, 0, 1, 1, 0])
        for machine in machines():
            for length in range(6):
                wanted = sum(lets(machine, text) for text in all_texts(machine[1], length) if len(text) == length)
                self.assertEqual(texts_of_length(machine, length), wanted)

    def test_wrong(self):
        bad = [-1, 1001, True, False, None, "1", 1.0, (1,), [1], 10 ** 29, "", {}]
        refused(self, texts_of_length, {"machine": EVEN, "length": 3},
                [("machine", BadMachine, BAD_MACHINES), ("length", BadNumber, bad)])


if __name__ == "__main__":
    unittest.main()
