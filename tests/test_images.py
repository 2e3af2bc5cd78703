"""Points 54 and 58: the texts on which a program writes into a language."""

import unittest

import reference
from drawn import drawn_programs, leading_program
from oneuseheads.alltexts import first_apart, row_basis
from oneuseheads.boxes import boxed
from oneuseheads.errors import BadMachine, BadProgram, OtherLetters, TooMany, Unread
from oneuseheads.images import leads, writes_into
from oneuseheads.joining import behind, both, relettered, turned_in, turned_out
from oneuseheads.languages import combined, contrary, first_text, is_machine, least_machine, lets
from oneuseheads.programs import letters
from oneuseheads.walks import run
from samples import DOUBLED, DROPPING, END, FORGETTING, IDENTITY, Numbers, PROGRAMS, T, THERE_AND_BACK, TURNED, copied, fun, n, put, refused
from test_alike import all_texts
from test_alltexts import round_of_words
from test_languages import ALL, BAD_MACHINES, EVEN, ONE, just_of_length, made_machine, round_of
from test_programs import BAD_PROGRAMS, great_program
from test_walks import programs

COPY = ("program", T, END, (("a", fun("x", T, put("a", n("x")))), ("b", fun("x", T, put("b", n("x"))))), IDENTITY)
A_AND_B = ("machine", "ab", ((1, 0), (0, 1)), (0,))


def written_letters(value):
    return "".join(reference.letters_put(value))


def machine_for(numbers, value, states=5):
    """A machine by chance that has the letters that the program may write, and some more now and then."""
    signs = "".join(sorted(set(written_letters(value) + numbers.one_of(["", "", "k", "xy"])))) or "a"
    return made_machine(numbers, signs, 1 + numbers.below(states))


def least_by_texts(value, machine, most):
    """The least machine by all texts of so many letters and what they lead to; None if there are too few of them."""
    ends = list(all_texts(value, most))

    def row(text):
        return tuple(reference_lets(machine, run(value, text + end)) for end in ends)

    rows = []
    order = [""]
    numbers = {row(""): 0}
    for text in order:
        goals = []
        for letter in letters(value):
            its = row(text + letter)
            if its not in numbers:
                numbers[its] = len(order)
                order.append(text + letter)
            goals.append(numbers[its])
        rows.append(tuple(goals))
        if len(order) > 12:
            return None
    good = tuple(at for at, text in enumerate(order) if reference_lets(machine, run(value, text)))
    return ("machine", letters(value), tuple(rows), good)


def count_fronts(value, machine, most=4000):
    """How many fronts there are, words exchanged for what they do to the states, by the box machine; at most one more."""
    _, signs, begun, rows = boxed(value)
    states = range(len(machine[2]))

    def does(pieces, held):
        come = tuple(states)
        for piece in pieces:
            if isinstance(piece, str):
                come = tuple(machine[2][state][machine[1].index(piece)] for state in come)
            else:
                come = tuple(held[piece][state] for state in come)
        return come

    found = [(0, tuple(does(word, ()) for word in begun))]
    met = {found[0]}
    for row, held in found:
        for goal, fills in rows[row][1]:
            come = (goal, tuple(does(fill, held) for fill in fills))
            if come not in met:
                met.add(come)
                found.append(come)
        if len(found) > most:
            break
    return len(found)


def reference_lets(machine, text):
    state = 0
    for letter in text:
        state = machine[2][state][machine[1].index(letter)]
    return state in machine[3]


def all_programs(many=40):
    found = [*PROGRAMS, *programs(25), *drawn_programs(Numbers(871), many), *[leading_program(Numbers(seed), 3, "ab") for seed in range(10)]]
    return found + [turned_in(DOUBLED), turned_out(TURNED), both(TURNED, COPY), both(DOUBLED, COPY)]


class WritesInto(unittest.TestCase):
    def test_examples(self):
        self.assertEqual(writes_into(COPY, A_AND_B), A_AND_B)
        self.assertEqual(writes_into(program=TURNED, machine=A_AND_B), A_AND_B)
        self.assertEqual(writes_into(DOUBLED, ("machine", "a", ((1,), (2,), (0,)), (0,))),
                         ("machine", "ab", ((1, 0), (2, 1), (0, 2)), (0,)))
        self.assertEqual(writes_into(DROPPING, ("machine", "k", ((1,), (1,)), (1,))), ("machine", "q", ((0,),), (0,)))
        self.assertEqual(writes_into(DROPPING, ("machine", "k", ((1,), (1,)), (0,))), ("machine", "q", ((0,),), ()))
        # The first letter written is the last one read.
        begins = ("machine", "ab", ((1, 2), (1, 1), (2, 2)), (1,))
        self.assertEqual(writes_into(TURNED, begins), ("machine", "ab", ((1, 0), (1, 0)), (1,)))
        self.assertEqual(writes_into(COPY, begins), begins)
        self.assertEqual(writes_into(FORGETTING, ("machine", "abcz", ((0, 0, 1, 0), (1, 1, 1, 1)), (1,))), ("machine", "ab", ((1, 0), (1, 1)), (0,)))

    def test_all_texts(self):
        numbers = Numbers(872)
        sizes = set()
        for value in all_programs():
            for _ in range(2):
                machine = machine_for(numbers, value)
                held = copied((value, machine), {})
                try:
                    told = writes_into(value, machine)
                except TooMany:
                    self.assertGreater(count_fronts(value, machine), 4000)
                    continue
                self.assertIs(is_machine(told), True)
                self.assertEqual(told, least_machine(told))
                self.assertEqual(told[1], letters(value))
                for text in all_texts(value, 6 if len(letters(value)) < 3 else 4):
                    self.assertIs(lets(told, text), reference_lets(machine, run(value, text)), text)
                self.assertEqual((value, machine), held)
                sizes.add(len(told[2]))
        self.assertGreater(len(sizes), 7)

    def test_least_by_what_is_written(self):
        numbers = Numbers(873)
        seen = set()
        for value in all_programs(20):
            if len(letters(value)) < 3:
                machine = machine_for(numbers, value, 3)
                wanted = least_by_texts(value, machine, 5)
                if wanted is not None:
                    self.assertEqual(writes_into(value, machine), wanted)
                    seen.add(len(wanted[2]))
        self.assertGreater(len(seen), 4)

    def test_facts(self):
        numbers = Numbers(874)
        seen = 0
        for first in [*PROGRAMS[:2], COPY, *drawn_programs(numbers, 30), both(DOUBLED, COPY)]:
            for second in (DOUBLED, TURNED, COPY, turned_in(DOUBLED), drawn_reader(numbers)):
                words = tuple((letter, numbers.one_of(["a", "b", "ab", ""])) for letter in ALL[:26])
                come = relettered(first, words)
                machine = machine_for(numbers, second, 4)
                try:
                    joined = behind(come, second)
                except TooMany:
                    continue
                if count_fronts(joined, machine) > 4000 or count_fronts(second, machine) > 4000:
                    continue
                self.assertEqual(writes_into(joined, machine), writes_into(come, writes_into(second, machine)))
                self.assertEqual(writes_into(come, contrary(A_AND_B)), contrary(writes_into(come, A_AND_B)))
                seen += 1
        self.assertGreater(seen, 60)

    def test_combined_and_turned(self):
        numbers = Numbers(875)
        for value in all_programs(25):
            one, other = machine_for(numbers, value, 3), None
            other = made_machine(numbers, one[1], 3)
            if count_fronts(value, one) > 4000 or count_fronts(value, combined("both", one, other)) > 4000:
                continue
            for word in ("both", "either", "first"):
                self.assertEqual(writes_into(value, combined(word, one, other)), combined(word, writes_into(value, one), writes_into(value, other)))
            try:
                turned = turned_out(value)
            except TooMany:
                continue
            # What is written turned round is let by the machine of the texts turned round.
            least = writes_into(turned, one)
            for text in all_texts(value, 3):
                self.assertIs(lets(least, text), reference_lets(one, run(value, text)[::-1]))

    def test_four_hundred_states_and_more(self):
        great = ("machine", "ab", tuple(((at + 1) % 400, at) for at in range(400)), (0,))
        self.assertEqual(writes_into(COPY, great), great)
        self.assertEqual(writes_into(TURNED, great), great)
        for states, fits in [(398, True), (399, False), (400, False)]:
            machine = ("machine", "abcz", tuple((((at + 1) % states,) * 4) for at in range(states)), (0,))
            if fits:
                told = writes_into(FORGETTING, machine)
                self.assertEqual(len(told[2]), 400)
                self.assertIs(lets(told, "b" * (2 * states - 2)), True)
            else:
                with self.assertRaises(TooMany) as found:
                    writes_into(FORGETTING, machine)
                self.assertEqual(found.exception.most, 400)
        # Read backward, a letter so far from the beginning takes a state for each text behind it.
        for many, fits in [(8, True), (9, False), (10, False)]:
            rows = tuple((at + 1, at + 1) for at in range(many - 1)) + ((many, many + 1), (many, many), (many + 1, many + 1))
            machine = ("machine", "ab", rows, (many,))
            self.assertIs(is_machine(machine), True)
            self.assertEqual(writes_into(COPY, machine), machine)
            if fits:
                self.assertEqual(len(writes_into(TURNED, machine)[2]), 2 ** many)
            else:
                for function in (lambda: writes_into(TURNED, machine), lambda: leads(TURNED, EVEN, machine)):
                    with self.assertRaises(TooMany) as found:
                        function()
                    self.assertEqual(found.exception.most, 400)

    def test_more_states_than_are_needed(self):
        # A machine with many states that lets what a small one lets.
        many = ("machine", "ab", tuple(((at + 1) % 400, at) for at in range(400)), tuple(range(0, 400, 2)))
        self.assertEqual(writes_into(TURNED, many), A_AND_B)
        self.assertEqual(writes_into(both(TURNED, COPY), many), ("machine", "ab", ((0, 0),), (0,)))

    def test_unread(self):
        for value, machine, letter in [(COPY, ONE, "b"), (FORGETTING, ("machine", "abz", ((0, 0, 0),), ()), "c"), (FORGETTING, ("machine", "bcy", ((0, 0, 0),), ()), "a"),
                                       (THERE_AND_BACK, ("machine", "abcdefghijklm", ((0,) * 13,), ()), "s"), (DOUBLED, ("machine", "b", ((0,),), ()), "a")]:
            for function in (lambda: writes_into(value, machine), lambda: leads(value, ("machine", letters(value), ((0,) * len(letters(value)),), ()), machine)):
                with self.assertRaises(Unread) as found:
                    function()
                self.assertEqual(found.exception.letter, letter)
        # The letters of puts, written or not.
        hidden = ("program", T, END, (("a", fun("x", T, n("x"))),), fun("x", T, ("call", fun("z", T, n("x")), put("q", END))))
        self.assertEqual(run(hidden, "aaa"), "")
        with self.assertRaises(Unread) as found:
            writes_into(hidden, ONE)
        self.assertEqual(found.exception.letter, "q")
        # All 26 letters, and one alone.
        wide = ("machine", ALL, ((0,) * 26,), (0,))
        for value in PROGRAMS:
            self.assertEqual(writes_into(value, wide), ("machine", letters(value), ((0,) * len(letters(value)),), (0,)))

    def test_wrong(self):
        bad = [*BAD_PROGRAMS, great_program(31)]
        refused(self, writes_into, {"program": DOUBLED, "machine": A_AND_B},
                [("program", BadProgram, bad), ("machine", BadMachine, BAD_MACHINES), ("machine", (Unread, {"letter": "a"}), [("machine", "b", ((0,),), ())])])
        other_letters = [ONE, ("machine", "abc", ((0, 0, 0),), ()), ("machine", "ac", ((0, 0),), ())]
        refused(self, leads, {"program": DOUBLED, "one": EVEN, "other": A_AND_B},
                [("program", BadProgram, bad), ("one", BadMachine, BAD_MACHINES), ("other", BadMachine, BAD_MACHINES), ("one", OtherLetters, other_letters),
                 ("other", (Unread, {"letter": "a"}), [("machine", "b", ((0,),), ())])])


def drawn_reader(numbers):
    """A program by chance that reads a and b."""
    while True:
        value = leading_program(numbers, 2, "ab")
        if letters(value) == "ab":
            return value


class Leads(unittest.TestCase):
    def test_examples(self):
        self.assertIsNone(leads(COPY, EVEN, EVEN))
        self.assertEqual(leads(COPY, ("machine", "ab", ((0, 0),), (0,)), EVEN), "a")
        self.assertEqual(leads(program=COPY, one=("machine", "ab", ((0, 0),), (0,)), other=("machine", "ab", ((0, 0),), ())), "")
        self.assertIsNone(leads(COPY, ("machine", "ab", ((0, 0),), ()), ("machine", "ab", ((0, 0),), ())))
        self.assertIsNone(leads(DOUBLED, ("machine", "ab", ((0, 0),), (0,)), ("machine", "a", ((1,), (0,)), (0,))))
        self.assertEqual(leads(DOUBLED, ("machine", "ab", ((0, 0),), (0,)), ("machine", "a", ((1,), (1,)), (0,))), "a")
        self.assertEqual(leads(round_of_words(["", "", "", "p"]), round_of(2), ("machine", "p", ((0,),), (0,))), None)

    def test_all_texts(self):
        numbers = Numbers(876)
        seen = {True: 0, False: 0}
        for value in all_programs():
            for _ in range(3):
                other = machine_for(numbers, value, 4)
                if count_fronts(value, other) > 4000:
                    continue
                if numbers.below(3) == 0:
                    one = combined("both", writes_into(value, other), made_machine(numbers, letters(value), 4))
                else:
                    one = made_machine(numbers, letters(value), 1 + numbers.below(5))
                held = copied((value, one, other), {})
                told = leads(value, one, other)
                self.assertEqual((value, one, other), held)
                apart = [text for text in all_texts(value, 5) if reference_lets(one, text) and not reference_lets(other, run(value, text))] \
                    if len(letters(value)) < 4 else None
                if apart:
                    self.assertEqual(told, apart[0])
                elif apart is not None and told is not None:
                    self.assertGreater(len(told), 5)
                self.assertEqual(told, first_text(combined("first", one, writes_into(value, other))))
                seen[told is None] += 1
        self.assertGreater(min(seen.values()), 40)

    def test_long_first_texts(self):
        # By hand: only the text of 390 letters is led elsewhere.
        one = ("machine", "ab", tuple((min(at + 1, 391), 391) for at in range(392)), (390,))
        many = just_of_length(390)
        other = ("machine", "ab", tuple((row[0], 391) for row in many[2]), (389,))
        self.assertEqual(leads(COPY, one, other), "a" * 390)
        # More pairs of states than a machine may have, where no one is left.
        circles = (("machine", "ab", tuple(((at + 1) % 397, (at + 1) % 397) for at in range(397)), (0,)),
                   ("machine", "ab", tuple(((at + 1) % 389, (at + 1) % 389) for at in range(389)), (1,)))
        told = leads(COPY, circles[0], contrary(circles[1]))
        self.assertEqual(len(told) % 397, 0)
        self.assertEqual(len(told) % 389, 1)
        self.assertLess(len(told), 397 * 389)
        self.assertEqual(told, "a" * len(told))


class ByHand(unittest.TestCase):
    def test_point_58(self):
        value = ("program", T, END, (("a", fun("x", T, put("a", put("a", n("x"))))), ("b", fun("x", T, n("x")))), fun("x", T, n("x")))
        self.assertEqual(boxed(value), ("boxes", "ab", ("",), ((1, ((0, ((0, "a", "a"),)), (0, ((0,),))), (0,)),)))
        self.assertEqual(writes_into(value, ("machine", "a", ((1,), (0,)), (0,))), ("machine", "ab", ((0, 0),), (0,)))
        self.assertEqual(writes_into(value, ("machine", "ab", ((1, 2), (0, 2), (2, 2)), (0,))), ("machine", "ab", ((0, 0),), (0,)))
        self.assertEqual(row_basis(value, value), ["", "a"])
        self.assertIsNone(first_apart(value, turned_in(value)))


if __name__ == "__main__":
    unittest.main()
