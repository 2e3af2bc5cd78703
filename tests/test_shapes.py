"""Points 41 to 43: shapes of tables and of stretches of text, and the groups among them."""

import unittest
from itertools import product

import reference
from drawn import drawn_program, drawn_programs, leading_program
from oneuseheads.errors import BadKind, BadProgram, BadShape, BadTable, BadText, TooMany
from oneuseheads.programs import letters
from oneuseheads.shapes import groups, is_shape, joined, plain_shape, powers, shape_of, shapes, stretch_shape, turned_round
from oneuseheads.tables import bare_tables, own_table, through
from oneuseheads.walks import crossed, run, stretch, walk
from samples import DOUBLED, DROPPING, FORGETTING, Numbers, PROGRAMS, T, THERE_AND_BACK, TT, TURNED, copied, made_kind
from samples import made_text, odd_values, refused, spoiled, texts_to, to
from test_alike import all_texts
from test_alltexts import words_led
from test_programs import BAD_PROGRAMS, great_program
from test_tables import APPLIED, NO_KINDS, table_by_chance
from test_walks import BAD_TEXTS, programs

BACK = ((0, 2), (3, 1))


def by_length(text):
    return len(text), text


def has_form(value):
    """Whether value is a tuple of pairs of wholes, or of a whole and None."""
    return type(value) is tuple and all(type(pair) is tuple and len(pair) == 2 and type(pair[0]) is int
                                        and (pair[1] is None or type(pair[1]) is int) for pair in value)


def all_programs(many=60):
    return [*PROGRAMS, *programs(25), *drawn_programs(Numbers(801), many)]


def circling(many, letter="a"):
    """A program of one letter with which many texts go round."""
    return words_led(many, [(letter, "", [((at + 1) % many, "") for at in range(many)])])


def met_by_all_texts(value, most):
    """The least stretch of each shape of stretches of at most so many letters, as the words of the point tell."""
    found = {}
    for text in sorted(all_texts(value, most), key=by_length):
        found.setdefault(shape_of(to(value[1], value[1]), stretch(value, text)), text)
    return found


class Shape(unittest.TestCase):
    def test_examples(self):
        self.assertEqual(shape_of(to(TT, TT), APPLIED), BACK)
        self.assertEqual(shape_of(kind=T, table=((0, "ab", None),)), ((0, None),))
        self.assertEqual(shape_of(T, ((0, "", None),)), ((0, None),))
        self.assertIs(is_shape(kind=to(TT, TT), value=BACK), True)

    def test_shapes_of_tables(self):
        numbers = Numbers(802)
        for _ in range(200):
            kind = made_kind(numbers, 1 + numbers.below(8))
            table = table_by_chance(numbers, kind)
            shape = shape_of(kind, table)
            self.assertEqual(shape, tuple((end, goal) for end, _, goal in table))
            self.assertIs(is_shape(kind, shape), True)
            for other in spoiled(shape):
                # Just those that some table of the kind has.
                if reference.size(kind) < 6:
                    wanted = has_form(other) and other in [shape_of(kind, bare) for bare in bare_tables(kind)]
                    self.assertIs(is_shape(kind, other), wanted, other)

    def test_all_pairs_of_small_kinds(self):
        for kind in [T, TT, to(T, T, T), to(TT, T)]:
            ends = range(reference.size(kind))
            pairs = [(end, goal) for end in ends for goal in [None, *ends]]
            right = [shape_of(kind, table) for table in bare_tables(kind)]
            for many in range(4):
                for value in product(pairs, repeat=many):
                    self.assertIs(is_shape(kind, value), value in right)

    def test_no_shapes(self):
        double = to(TT, TT)
        wrong = [*odd_values(), BACK[:1], BACK[1:], BACK[::-1], list(BACK), ([0, 2], (3, 1)), ((0, 2, 3), (3, 1)), ((0,), (3, 1)),
                 ((False, 2), (3, 1)), ((0, 2), (3, True)), ((0, "", 2), (3, "", 1)), APPLIED, ((0, 1), (3, 1)), ((0, 1), (3, 2)),
                 ((3, 2), (0, 1)), BACK + ((4, None),), ((0, None), (3, 2)), ((3, 0),), ((0, 2), (3, 1), (3, 1)), ((0, 2), (3, 1.0)),
                 ((0, [2]), (3, 1)), (BACK,), {0: 2, 3: 1}, ((0, -1), (3, 1)), ((-1, 2), (3, 1)), ((0, 4), (3, 1)), ()]
        for value in wrong:
            self.assertIs(is_shape(double, value), False, value)
        self.assertIs(is_shape(double, ((3, None),)), True)
        self.assertIs(is_shape(double, ((0, None), (3, 1))), True)
        self.assertIs(is_shape(T, ((False, None),)), False)
        self.assertIs(is_shape(T, ()), False)

    def test_wrong(self):
        refused(self, shape_of, {"kind": to(TT, TT), "table": APPLIED},
                [("kind", BadKind, NO_KINDS), ("table", BadTable, [*odd_values(), BACK, list(APPLIED), APPLIED[::-1]])])
        refused(self, is_shape, {"kind": T, "value": None}, [("kind", BadKind, NO_KINDS)])


class Joined(unittest.TestCase):
    def test_plain_shape(self):
        self.assertEqual(plain_shape(T), ((1, 0),))
        self.assertEqual(plain_shape(kind=TT), BACK)
        for ends in range(1, 31):
            kind = made_kind(Numbers(803 + ends), ends)
            self.assertEqual(plain_shape(kind), shape_of(to(kind, kind), own_table(kind)))

    def test_words_have_no_bearing(self):
        numbers = Numbers(804)
        for _ in range(150):
            kind = made_kind(numbers, 1 + numbers.below(7))
            double = to(kind, kind)
            one, other = table_by_chance(numbers, double), table_by_chance(numbers, double)
            told = joined(kind, shape_of(double, one), shape_of(double, other))
            self.assertEqual(told, shape_of(double, through(kind, one, other)))
            self.assertIs(is_shape(double, told), True)

    def test_in_threes_and_with_the_plain_shape(self):
        numbers = Numbers(805)
        for ends in [1, 2, 3, 4, 5, 6, 8, 12, 30] * 12:
            kind = made_kind(numbers, ends)
            one, two, three = [shape_of(to(kind, kind), table_by_chance(numbers, to(kind, kind))) for _ in range(3)]
            held = copied((one, two, three), {})
            self.assertEqual(joined(kind, one, joined(kind, two, three)), joined(kind, joined(kind, one, two), three))
            self.assertEqual(joined(kind, plain_shape(kind), one), one)
            self.assertEqual(joined(kind=kind, one=one, other=plain_shape(kind)), one)
            self.assertEqual((one, two, three), held)

    def test_wrong(self):
        great = [texts_to(30), made_kind(Numbers(806), 31), made_kind(Numbers(806), 60)]
        bad = [*odd_values(), APPLIED, list(BACK), BACK[::-1], ((0, 2), (3, True)), BACK + ((4, None),)]
        refused(self, plain_shape, {"kind": TT}, [("kind", BadKind, NO_KINDS), ("kind", (TooMany, {"most": 60}), great)])
        refused(self, joined, {"kind": TT, "one": BACK, "other": ((3, None),)},
                [("kind", BadKind, NO_KINDS), ("kind", (TooMany, {"most": 60}), great), ("one", BadShape, bad),
                 ("other", BadShape, bad)])
        self.assertRaises(BadShape, joined, T, ((0, None),), ((1, 0),))
        self.assertRaises(BadShape, joined, T, ((1, 0),), ((0, None),))


class StretchShape(unittest.TestCase):
    def test_examples(self):
        self.assertEqual(stretch_shape(TURNED, ""), BACK)
        self.assertEqual(stretch_shape(TURNED, "abba"), BACK)
        self.assertEqual(stretch_shape(program=FORGETTING, text="bab"), ((1, None),))
        self.assertEqual(stretch_shape(FORGETTING, "bb"), ((1, 0),))
        self.assertEqual(stretch_shape(DROPPING, "q"), ((0, None), (3, 1)))

    def test_is_that_of_stretch(self):
        numbers = Numbers(807)
        for value in all_programs():
            double = to(value[1], value[1])
            for text in ["", letters(value), *[made_text(numbers, letters(value), 12) for _ in range(4)]]:
                self.assertEqual(stretch_shape(value, text), shape_of(double, stretch(value, text)))

    def test_cut_as_one_likes(self):
        numbers = Numbers(808)
        for value in all_programs(40):
            one, other = made_text(numbers, letters(value), 9), made_text(numbers, letters(value), 9)
            told = joined(value[1], stretch_shape(value, one), stretch_shape(value, other))
            self.assertEqual(stretch_shape(value, one + other), told)

    def test_stretches_of_one_shape_do_the_same_to_a_walk(self):
        for value in drawn_programs(Numbers(809), 40):
            found = {}
            for text in all_texts(value, 3):
                found.setdefault(stretch_shape(value, text), []).append(text)
            one, other = max(found.values(), key=len)[:2]
            ahead, behind = letters(value), letters(value)[::-1]
            for at in range(len(ahead) + 1):
                self.assertEqual(crossed(value, ahead + one + behind, at), crossed(value, ahead + other + behind, at))
            for back in range(len(behind) + 1):
                one_at, other_at = len(ahead + one) + back, len(ahead + other) + back
                self.assertEqual(crossed(value, ahead + one + behind, one_at), crossed(value, ahead + other + behind, other_at))
            outside = []
            for text in (one, other):
                written, _ = walk(value, ahead + text + behind)
                places = [(letter, place if place <= len(ahead) else place - len(text)) for letter, place in written
                          if not len(ahead) < place <= len(ahead + text)]
                outside.append(places)
            self.assertEqual(*outside)

    def test_long_stretches(self):
        many = leading_program(Numbers(810), 14, "abcd", False)
        self.assertRaises(TooMany, shapes, many)
        numbers = Numbers(811)
        text = "".join(numbers.one_of("abcd") for _ in range(700))
        self.assertEqual(stretch_shape(many, text), shape_of(to(many[1], many[1]), stretch(many, text)))
        self.assertEqual(stretch_shape(TURNED, "ab" * 3000), BACK)
        self.assertEqual(stretch_shape(circling(7), "a" * 5000), stretch_shape(circling(7), "a" * (5000 % 7)))
        self.assertEqual(stretch_shape(great_program(30), "a" * 400), plain_shape(texts_to(29)))

    def test_wrong(self):
        refused(self, stretch_shape, {"program": TURNED, "text": "ab"},
                [("program", BadProgram, [*BAD_PROGRAMS, great_program(31)]), ("text", BadText, BAD_TEXTS)])


class Shapes(unittest.TestCase):
    def test_examples(self):
        self.assertEqual(shapes(TURNED), [("", BACK)])
        self.assertEqual(shapes(program=FORGETTING), [("", ((1, 0),)), ("a", ((1, None),))])
        self.assertEqual(shapes(DROPPING), [("", BACK), ("q", ((0, None), (3, 1)))])
        self.assertEqual(shapes(DOUBLED), [("", ((1, 0),))])
        self.assertEqual([text for text, _ in shapes(circling(4))], ["", "a", "aa", "aaa"])

    def test_all_stretches_up_to_some_length(self):
        sizes = []
        for value in all_programs():
            told = shapes(value)
            most = 6 if len(letters(value)) < 3 else 4
            found = met_by_all_texts(value, most)
            self.assertEqual([(text, shape) for text, shape in told if len(text) <= most], [(text, shape) for shape, text in found.items()])
            self.assertEqual(told[0], ("", plain_shape(value[1])))
            self.assertEqual([text for text, _ in told], sorted([text for text, _ in told], key=by_length))
            self.assertEqual(len({shape for _, shape in told}), len(told))
            # One letter more leads to no new ones.
            for text, shape in told[-3:]:
                for letter in letters(value):
                    self.assertIn(joined(value[1], shape, stretch_shape(value, letter)), [other for _, other in told])
            sizes.append(len(told))
        self.assertGreater(len(set(sizes)), 12)

    def test_new_each_time(self):
        told = shapes(circling(3))
        told.append(None)
        self.assertEqual(len(shapes(circling(3))), 3)

    def test_a_thousand_shapes(self):
        # All orders of six texts and of seven; orders of three parted ones of ten and seven and of all of them at once.
        both = [("a", "", [(at, "") for at in (1, 2, 3, 4, 5, 0)]), ("b", "", [(at, "") for at in (1, 0, 2, 3, 4, 5)])]
        self.assertEqual(len(shapes(words_led(6, both))), 720)
        more = [("a", "", [(at, "") for at in (1, 2, 3, 4, 5, 6, 0)]), ("b", "", [(at, "") for at in (1, 0, 2, 3, 4, 5, 6)])]
        wide = words_led(7, more)
        for function in (shapes, turned_round, groups):
            with self.assertRaises(TooMany) as found:
                function(wide)
            self.assertEqual(found.exception.most, 1000)
        self.assertEqual(powers(wide, "a"), (0, 7))
        self.assertEqual(powers(wide, "ab"), (0, 6))
        # Just 1000, and one more.
        self.assertEqual(len(shapes(circle_of((5, 8), (5,), (5,)))), 1000)
        self.assertEqual(turned_round(circle_of((5, 8), (5,), (5,))), "a")
        self.assertEqual(groups(circle_of((5, 8), (5,), (5,)))[0][1], [text for text, _ in shapes(circle_of((5, 8), (5,), (5,)))])
        for function in (shapes, turned_round, groups):
            with self.assertRaises(TooMany) as found:
                function(circle_of((5, 8), (5,), (5,), drops=True))
            self.assertEqual(found.exception.most, 1000)
        self.assertEqual(len(shapes(circle_of((5, 9), (5,), drops=True))), 226)
        self.assertEqual(len(shapes(circle_of((9, 11), (7,)))), 693)
        self.assertEqual(turned_round(circle_of((9, 11), (7,))), "a")

    def test_wrong(self):
        for function in (shapes, turned_round, groups):
            refused(self, function, {"program": TURNED}, [("program", BadProgram, [*BAD_PROGRAMS, great_program(31)])])


def circle_of(*rounds, drops=False):
    """A program with a letter for each of rounds, which leads texts round in circles of so many; and one that drops all."""
    many = sum(sum(row) for row in rounds)
    steps, first = [], 0
    for letter, row in zip("abcd", rounds, strict=False):
        places = list(range(many))
        for length in row:
            places[first:first + length] = [first + (at + 1) % length for at in range(length)]
            first += length
        steps.append((letter, "", [(at, "") for at in places]))
    if drops:
        steps.append(("z", "", [(None, "") for _ in range(many)]))
    return words_led(many, steps)


class Powers(unittest.TestCase):
    def test_examples(self):
        self.assertEqual(powers(TURNED, "ab"), (0, 1))
        self.assertEqual(powers(program=FORGETTING, text="a"), (1, 1))
        self.assertEqual(powers(FORGETTING, ""), (0, 1))
        self.assertEqual(powers(THERE_AND_BACK, "a"), (0, 1))
        for many in range(2, 7):
            self.assertEqual(powers(circling(many), "a"), (0, many))
            self.assertEqual(powers(circling(many), "a" * many), (0, 1))
        self.assertEqual(powers(circle_of((7, 8, 9)), "a"), (0, 504))
        self.assertEqual(powers(circle_of((3, 5, 7, 11)), "a"), (0, 1155))

    def test_by_going_through(self):
        seen = {}
        for value in all_programs():
            for text in ["", *letters(value), letters(value) * 2, letters(value)[::-1] + letters(value)[0]]:
                first, turn = powers(value, text)
                told = [stretch_shape(value, text * times) for times in range(first + 2 * turn + 1)]
                self.assertEqual(told[first], told[first + turn])
                self.assertEqual(len(set(told[:first + turn])), first + turn)
                seen[(first, turn)] = True
        self.assertGreater(len(seen), 8)

    def test_first_and_round(self):
        # What stands ahead in a row of texts is dropped after so many letters, the others go round.
        for first, turn in [(1, 1), (3, 1), (2, 3), (5, 4), (4, 6)]:
            rows = [(None, "")] + [(at, "") for at in range(first - 1)] + [(first + (at + 1) % turn, "") for at in range(turn)]
            value = words_led(first + turn, [("a", "", rows), ("b", "", [(at, "") for at in range(first + turn)])])
            self.assertEqual(powers(value, "a"), (first, turn))
            self.assertEqual(powers(value, "b"), (0, 1))
            self.assertEqual(powers(value, "bab"), (first, turn))
            self.assertEqual(turned_round(value), "a" if turn > 1 else None)

    def test_wrong(self):
        refused(self, powers, {"program": TURNED, "text": "ab"},
                [("program", BadProgram, [*BAD_PROGRAMS, great_program(31)]), ("text", BadText, BAD_TEXTS)])


def groups_by_words(value):
    """The groups by the words of the point."""
    kind, found = value[1], shapes(value)
    told = []
    for text, shape in found:
        if joined(kind, shape, shape) != shape:
            continue
        some = []
        for other, its in found:
            if joined(kind, shape, its) == its == joined(kind, its, shape):
                power, met = its, []
                while power not in met:
                    met.append(power)
                    power = joined(kind, power, its)
                if shape in met:
                    some.append(other)
        if len(some) > 1:
            told.append((text, some))
    return told


class Groups(unittest.TestCase):
    def test_examples(self):
        self.assertEqual(groups(TURNED), [])
        self.assertEqual(groups(FORGETTING), [])
        self.assertIsNone(turned_round(TURNED))
        self.assertEqual(groups(program=circling(3)), [("", ["", "a", "aa"])])
        self.assertEqual(turned_round(program=circling(3)), "a")
        # The first text is dropped, and two change places.
        value = words_led(3, [("a", "", [(None, ""), (2, ""), (1, "")]), ("b", "", [(0, ""), (1, ""), (2, "")])])
        self.assertEqual(groups(value), [("aa", ["a", "aa"])])
        self.assertEqual(turned_round(value), "a")
        # Only both letters together turn round.
        value = words_led(3, [("a", "", [(1, ""), (0, ""), (None, "")]), ("b", "", [(0, ""), (2, ""), (None, "")])])
        self.assertEqual(turned_round(value), "a")
        value = words_led(3, [("a", "", [(None, ""), (0, ""), (2, "")]), ("b", "", [(1, ""), (None, ""), (2, "")])])
        self.assertIsNone(turned_round(value))
        self.assertEqual(groups(value), [])

    def test_the_least_stretch_is_of_two_letters(self):
        value = words_led(4, [("a", "", [(1, ""), (None, ""), (3, ""), (2, "")]), ("b", "", [(None, ""), (0, ""), (2, ""), (3, "")])])
        self.assertEqual(turned_round(value), "a")
        # Each letter alone drops one text and leads one on; behind one another they exchange two.
        value = words_led(4, [("a", "", [(None, ""), (None, ""), (0, ""), (1, "")]), ("b", "", [(3, ""), (2, ""), (None, ""), (None, "")])])
        self.assertEqual((powers(value, "a"), powers(value, "b")), ((2, 1), (2, 1)))
        self.assertEqual(turned_round(value), "ab")
        self.assertEqual(groups(value), groups_by_words(value))

    def test_by_the_words(self):
        seen = {}
        values = all_programs(50) + [circling(many) for many in range(2, 7)]
        values += [leading_program(Numbers(seed), 3 + seed % 2, "ab") for seed in range(20)]
        for value in values:
            told = groups(value)
            if len(shapes(value)) <= 60:
                self.assertEqual(told, groups_by_words(value))
            self.assertEqual(turned_round(value) is None, told == [])
            turns = [text for text, _ in shapes(value) if powers(value, text)[1] > 1] if len(shapes(value)) <= 200 else None
            if turns is not None:
                self.assertEqual(turned_round(value), turns[0] if turns else None)
            seen[len(told)] = True
        self.assertGreater(len(seen), 3)

    def test_facts(self):
        for value in [circling(5), leading_program(Numbers(812), 3, "ab"), leading_program(Numbers(813), 4, "abc", False)]:
            kind = value[1]
            for text, some in groups(value):
                shape = stretch_shape(value, text)
                told = {other: stretch_shape(value, other) for other in some[:8]}
                every = [stretch_shape(value, other) for other in some]
                for its in told.values():
                    self.assertEqual(joined(kind, shape, its), its)
                    self.assertEqual(joined(kind, its, shape), its)
                    self.assertTrue(any(joined(kind, its, other) == shape for other in every))
                    for other in told.values():
                        self.assertIn(joined(kind, its, other), every)

    def test_new_each_time(self):
        value = circling(3)
        told = groups(value)
        told[0][1].append("more")
        told.append(None)
        self.assertEqual(groups(value), [("", ["", "a", "aa"])])

    def test_runs_go_round_with_the_group(self):
        value = words_led(3, [("a", "", [(1, ""), (2, ""), (0, "")])], 0, ["p", "q", "r"])
        self.assertEqual([run(value, "a" * many) for many in range(6)], ["p", "q", "r"] * 2)
        self.assertIsNone(turned_round(drawn_program(Numbers(814), 1)))


if __name__ == "__main__":
    unittest.main()
