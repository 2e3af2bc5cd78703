"""Points 45 and 46: the first and the last letter of what is written, and what turns it round."""

import unittest

from drawn import drawn_programs, leading_program
from oneuseheads.errors import BadProgram, BadText, BadWhich, TooMany
from oneuseheads.joining import turned_in, turned_out
from oneuseheads.programs import letters
from oneuseheads.signs import is_turning, sign, sign_machine, turning
from oneuseheads.walks import run
from samples import DOUBLED, DROPPING, FORGETTING, Numbers, PROGRAMS, THERE_AND_BACK, TURNED, copied, made_text, odd_values, refused, spoiled
from test_alike import all_texts
from test_alltexts import round_of_words, words_led
from test_programs import BAD_PROGRAMS, great_program
from test_shapes import circle_of, circling
from test_walks import BAD_TEXTS, programs

WHICH = ("first", "last")
BAD_WHICH = [*odd_values(), "First", "LAST", "both", "first ", "fir", "", ("first",), ["last"], 0, True, None, b"first"]


def all_programs(many=50):
    return [*PROGRAMS, *programs(20), *drawn_programs(Numbers(861), many), *[turned_out(value) for value in PROGRAMS[:3]]]


WRITTEN = {}


def told(value, text, which):
    """The sign by what is written; what is written on short texts is kept."""
    written = WRITTEN.get((id(value), text))
    if written is None:
        written = run(value, text)
        if len(text) < 30:
            # The program is kept, too, so that no other one has its number.
            WRITTEN[(id(value), text)] = written
            WRITTEN[id(value)] = value
    return written[:1] if which == "first" else written[len(written) - 1:]


def led(machine, text, signs):
    state = 0
    for letter in text:
        state = machine[1][state][signs.index(letter)]
    return state


def least_by_texts(value, which, most, behind):
    """The machine by the texts of so many letters: those behind which unlike signs are told are unlike states."""
    texts = list(all_texts(value, most))
    ends = list(all_texts(value, behind))

    def row(text):
        return tuple(told(value, text + end, which) for end in ends)

    states = {}
    for text in texts:
        states.setdefault(row(text), text)
    numbers = {its: at for at, its in enumerate(states)}
    try:
        moves = tuple(tuple(numbers[row(text + letter)] for letter in letters(value)) for text in states.values())
    except KeyError:
        return None
    return tuple(told(value, text, which) for text in states.values()), moves


class Sign(unittest.TestCase):
    def test_examples(self):
        self.assertEqual([sign(TURNED, "aab", which) for which in WHICH], ["b", "a"])
        self.assertEqual(sign(program=DOUBLED, text="bb", which="first"), "")
        self.assertEqual([sign(FORGETTING, "ba", which) for which in WHICH], ["z", "a"])
        self.assertEqual([sign(THERE_AND_BACK, "", which) for which in WHICH], ["s", "t"])

    def test_is_that_of_run(self):
        numbers = Numbers(862)
        for value in all_programs():
            for text in ["", letters(value), *[made_text(numbers, letters(value), 9) for _ in range(3)]]:
                for which in WHICH:
                    self.assertEqual(sign(value, text, which), told(value, text, which))

    def test_wrong(self):
        refused(self, sign, {"program": TURNED, "text": "ab", "which": "first"},
                [("program", BadProgram, [*BAD_PROGRAMS, great_program(31)]), ("text", BadText, BAD_TEXTS), ("which", BadWhich, BAD_WHICH)])
        for function in (sign_machine, turning):
            refused(self, function, {"program": TURNED, "which": "last"},
                    [("program", BadProgram, [*BAD_PROGRAMS, great_program(31)]), ("which", BadWhich, BAD_WHICH)])
        refused(self, is_turning, {"program": TURNED, "which": "last", "value": None},
                [("program", BadProgram, [*BAD_PROGRAMS, great_program(31)]), ("which", BadWhich, BAD_WHICH)])


class SignMachine(unittest.TestCase):
    def test_examples(self):
        self.assertEqual(sign_machine(DOUBLED, "first"), (("", "a"), ((1, 0), (1, 1))))
        self.assertEqual(sign_machine(program=TURNED, which="first"), (("", "a", "b"), ((1, 2), (1, 2), (1, 2))))
        self.assertEqual(sign_machine(TURNED, "last"), (("", "a", "b"), ((1, 2), (1, 1), (2, 2))))
        self.assertEqual(sign_machine(DROPPING, "first"), (("k",), ((0,),)))
        self.assertEqual(sign_machine(round_of_words(["p", "q", "p", "q"]), "first"), (("p", "q"), ((1,), (0,))))
        self.assertEqual(sign_machine(round_of_words(["p", "", "qp"]), "last"), (("p", "", "p"), ((1,), (2,), (0,))))

    def test_tells_the_sign_of_all_texts(self):
        numbers = Numbers(863)
        sizes = set()
        for value in all_programs():
            held = copied(value, {})
            for which in WHICH:
                machine = sign_machine(value, which)
                self.assertEqual((type(machine), type(machine[0]), type(machine[1])), (tuple, tuple, tuple))
                for text in [*all_texts(value, 4), *[made_text(numbers, letters(value), 40) for _ in range(6)]]:
                    self.assertEqual(machine[0][led(machine, text, letters(value))], told(value, text, which))
                sizes.add(len(machine[0]))
            self.assertEqual(value, held)
        self.assertGreater(len(sizes), 5)

    def test_least(self):
        seen = set()
        for value in all_programs(80):
            for which in WHICH:
                machine = sign_machine(value, which)
                if len(letters(value)) > 2 or len(machine[0]) > 10:
                    continue
                wanted = least_by_texts(value, which, 4, 4)
                if wanted is not None:
                    # Read by fewer ends, there may be fewer states, never more.
                    self.assertLessEqual(len(wanted[0]), len(machine[0]))
                    if len(wanted[0]) == len(machine[0]):
                        self.assertEqual(machine, wanted)
                        seen.add(len(machine[0]))
        self.assertGreater(len(seen), 4)

    def test_no_two_states_tell_the_same(self):
        for value in all_programs():
            for which in WHICH:
                signs, moves = sign_machine(value, which)
                apart = {(one, other) for one in range(len(signs)) for other in range(len(signs)) if signs[one] != signs[other]}
                while True:
                    more = {(one, other) for one in range(len(signs)) for other in range(len(signs)) if (one, other) not in apart
                            and any(pair in apart for pair in zip(moves[one], moves[other], strict=True))}
                    if not more:
                        break
                    apart |= more
                self.assertEqual(len(apart), len(signs) * (len(signs) - 1))
                # Numbered as texts meet them.
                order = [0]
                for state in order:
                    order += [goal for goal in dict.fromkeys(moves[state]) if goal not in order]
                self.assertEqual(order, list(range(len(signs))))

    def test_a_thousand_signed_shapes(self):
        for function in (sign_machine, turning, lambda value, which: is_turning(value, which, None)):
            for value in [circle_of((5, 8), (5,), (5,), drops=True), leading_program(Numbers(864), 8, "abc", False)]:
                for which in WHICH:
                    with self.assertRaises(TooMany) as found:
                        function(value, which)
                    self.assertEqual(found.exception.most, 1000)
            function(circle_of((5, 8), (5,), (5,)), "first")
        # No more shapes than one, but more than 1000 with signs: each of ten texts begins with one of two letters.
        many = words_led(11, [("a", "", [((at + 1) % 11, "") for at in range(11)]),
                              ("b", "", [(0, "p"), *[(at, "") for at in range(1, 11)]])])
        self.assertRaises(TooMany, sign_machine, many, "first")
        few = words_led(5, [("a", "", [((at + 1) % 5, "") for at in range(5)]), ("b", "", [(0, "p"), *[(at, "") for at in range(1, 5)]])])
        self.assertEqual(sign_machine(few, "first"), sign_machine(few, "last"))
        self.assertEqual(len(sign_machine(few, "first")[0]), 2 ** 5)


def signs_of(value, which, ahead, stretch, behind, many):
    return [told(value, ahead + stretch * times + behind, which) for times in range(many)]


def check_turning(test, value, which, found):
    ahead, stretch, behind, turn = found
    test.assertIs(type(found), tuple)
    test.assertTrue(all(set(text) <= set(letters(value)) for text in found[:3]) and type(turn) is int and turn >= 2)
    row = signs_of(value, which, ahead, stretch, behind, 4 * turn + 6)
    test.assertEqual(row[:-turn], row[turn:])
    for less in range(1, turn):
        test.assertNotEqual(row[:-less], row[less:])
    test.assertIs(is_turning(value, which, found), True)


def turning_texts(value, which, most):
    """The least stretch of at most so many letters for which some turning is found with short texts, None if none is."""
    around = list(all_texts(value, 2))
    for stretch in all_texts(value, most):
        for ahead in around:
            for behind in around:
                row = signs_of(value, which, ahead, stretch, behind, 11)
                if any(row[:-turn] == row[turn:] for turn in range(2, 6)) and len(set(row)) > 1:
                    return stretch
    return None


class Turning(unittest.TestCase):
    def test_examples(self):
        for value in PROGRAMS:
            self.assertIsNone(turning(value, "first"))
            self.assertIsNone(turning(program=value, which="last"))
        value = round_of_words(["p", "q", "r"])
        found = turning(value, "first")
        self.assertEqual((found[1], found[3]), ("a", 3))
        check_turning(self, value, "first", found)
        self.assertIs(is_turning(program=value, which="first", value=("", "a", "", 3)), True)
        # What goes round tells the same.
        self.assertIsNone(turning(round_of_words(["p", "p"]), "first"))
        self.assertIsNone(turning(round_of_words(["pq", "pr"]), "first"))
        check_turning(self, round_of_words(["pq", "pr"]), "last", turning(round_of_words(["pq", "pr"]), "last"))
        self.assertEqual(turning(round_of_words(["p", "q", "p", "q"]), "last")[3], 2)
        self.assertEqual(turning(round_of_words(["p", "", "p", "p"]), "last")[3], 4)

    def test_drawn(self):
        seen = {True: 0, False: 0}
        for value in [*all_programs(25), *[leading_program(Numbers(seed), 3, "ab") for seed in range(25)]]:
            for which in WHICH:
                found = turning(value, which)
                if found is not None:
                    check_turning(self, value, which, found)
                wanted = turning_texts(value, which, 2) if len(letters(value)) < 3 else None
                if wanted is not None:
                    self.assertEqual(found[1], wanted)
                elif found is not None and len(letters(value)) < 3:
                    self.assertTrue(len(found[1]) > 2 or len(found[0]) > 2 or len(found[2]) > 2 or found[3] > 5)
                seen[found is None] += 1
        self.assertGreater(min(seen.values()), 25)

    def test_what_leads_in_stands_ahead(self):
        value = turned_in(round_of_words(["p", "q"]))
        check_turning(self, value, "first", turning(value, "first"))
        late = late_round()
        found = turning(late, "first")
        check_turning(self, late, "first", found)
        self.assertEqual(found[1], "a")
        self.assertIs(is_turning(late, "first", ("", "a", "", 2)), False)
        self.assertIs(is_turning(late, "first", ("", "a", "", 3)), False)
        self.assertIs(is_turning(late, "first", ("b", "a", "", 2)), True)
        self.assertIs(is_turning(late, "first", ("b", "aa", "", 2)), False)
        self.assertIs(is_turning(late, "first", ("b", "aaa", "", 2)), True)

    def test_is_turning(self):
        value = round_of_words(["p", "q", "r", "q"])
        for found in [("", "a", "", 4), ("aa", "a", "a", 4), ("", "aaa", "", 4), ("", "aa", "", 2), ("", "aaaaa", "aa", 4),
                      ("a" * 1001, "a" * 2001, "a" * 3000, 4)]:
            self.assertIs(is_turning(value, "first", found), True, found)
            if len(found[1]) < 10:
                check_turning(self, value, "first", found)
        for found in [("", "a", "", 2), ("", "a", "", 8), ("", "a", "", 3), ("", "a", "", 1), ("", "a", "", 0), ("", "aaaa", "", 4), ("", "", "", 2),
                      ("", "", "", 4), ("a", "aa", "", 2), ("", "aa", "", 4), ("", "a", "", True), ("", "a", "", -4), ("", "a", "", 4 + 10 ** 29),
                      ("", "a", "", 10 ** 29), ("", "b", "", 4), ("b", "a", "", 4), ("", "a", "b", 4), ("", "a", "", "4"), ("", "a", ""),
                      ("", "a", "", 4, 4), ["", "a", "", 4], ("", ["a"], "", 4), ("", "A", "", 4), (None, "a", "", 4), ("", "a", "", 4.0), ("", "a", "", None),
                      *odd_values()]:
            self.assertIs(is_turning(value, "first", found), False, found)
        for other in spoiled(("", "a", "", 4)):
            wanted = type(other) is tuple and len(other) == 4 and all(type(text) is str and set(text) <= {"a"} for text in other[:3])
            wanted = wanted and type(other[3]) is int and other[3] >= 2
            if wanted:
                row = signs_of(value, "first", *other[:3], 300)
                wanted = row[:-other[3]] == row[other[3]:] and all(row[:-less] != row[less:] for less in range(1, other[3]))
            self.assertIs(is_turning(value, "first", other), wanted, other)

    def test_is_turning_by_repetitions(self):
        numbers = Numbers(865)
        seen = {True: 0, False: 0}
        values = [leading_program(Numbers(seed), 2 + seed % 3, "ab") for seed in range(30)] + [circling(3), late_round(), *all_programs(10)]
        for value in values:
            for which in WHICH:
                for _ in range(8):
                    ahead, stretch, behind = [made_text(numbers, letters(value), 3) for _ in range(3)]
                    row = signs_of(value, which, ahead, stretch, behind, 30)
                    turns = [turn for turn in range(1, 14) if row[:-turn] == row[turn:]]
                    turn = turns[0] if turns and numbers.below(4) else numbers.one_of([2, 3, 4, 6])
                    wanted = bool(turns) and turns[0] == turn and turn >= 2
                    self.assertIs(is_turning(value, which, (ahead, stretch, behind, turn)), wanted)
                    seen[wanted] += 1
        self.assertGreater(min(seen.values()), 40)

    def test_long_rounds(self):
        words = [["p", "q"][at == 0] for at in range(23)]
        value = round_of_words(words)
        self.assertEqual(turning(value, "first")[3], 23)
        self.assertIs(is_turning(value, "first", ("", "a" * 24, "", 23)), True)
        self.assertIs(is_turning(value, "first", ("", "a" * 23, "", 23)), False)
        two = circle_of((3, 5))
        self.assertIsNone(turning(two, "first"))


def late_round():
    """A program of a and b that writes nothing as long as there is no b, and p or q by turns behind one."""
    return words_led(2, [("a", "", [(1, ""), (0, "")]), ("b", "", [(None, "p"), (None, "q")])], 0, ["", ""])


if __name__ == "__main__":
    unittest.main()
