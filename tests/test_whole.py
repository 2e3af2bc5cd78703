"""Point 2: what holds over the whole program, by all its ways to tell one thing."""

import unittest

import reference
from drawn import drawn_programs, leading_program
from oneuseheads.alike import alike, first_unlike
from oneuseheads.alltexts import first_apart, writes_same
from oneuseheads.boxes import box_text, boxed
from oneuseheads.counting import counts
from oneuseheads.desk import Desk, replayed
from oneuseheads.ends import signs
from oneuseheads.errors import HeadError, TooMany
from oneuseheads.heads import head_of, led, program_of
from oneuseheads.held import Held
from oneuseheads.images import leads, writes_into
from oneuseheads.joining import both, turned_in, turned_out
from oneuseheads.languages import lets
from oneuseheads.order import is_ordered, is_ordered_program
from oneuseheads.parting import parted, written_in
from oneuseheads.programs import is_program, letters, term_of
from oneuseheads.reducing import doable, done, normal
from oneuseheads.shapes import groups, joined, shape_of, stretch_shape
from oneuseheads.signs import sign, sign_machine, turning
from oneuseheads.tables import called, is_table, read_back, table
from oneuseheads.terms import is_closed, same_but_names
from oneuseheads.walks import Token, crossed, run, stretch, walk
from oneuseheads.wording import program_worded, read, read_program, worded
from samples import END, Numbers, PROGRAMS, T, copied, made_kind, made_loose, made_term, made_text, put, to
from test_alltexts import places
from test_order import ordered_program
from test_walks import programs

NUMBERS = Numbers(901)
VALUES = [*PROGRAMS, *programs(30), *drawn_programs(NUMBERS, 40), *[leading_program(NUMBERS, 3) for _ in range(5)],
          *[ordered_program(NUMBERS) for _ in range(10)]]


def texts_for(value):
    numbers = Numbers(902)
    return ["", letters(value), *[made_text(numbers, letters(value), 8) for _ in range(4)], made_text(numbers, letters(value), 60)]


def led_token(value, text):
    token = Token(value, text)
    while token.step():
        pass
    return token


def edited(value, text):
    """A Held that came to a text by edits."""
    held = Held(value, text[2:] + text[:1])
    held.put_in(0, text)
    held.take_out(len(text), held.length() - len(text))
    for at, letter in enumerate(text[:3]):
        held.exchange(at, letters(value)[0])
        held.exchange(at, letter)
    return held


class OneText(unittest.TestCase):
    def test_all_ways_tell_one_text(self):
        small = 0
        for value in VALUES:
            held = copied(value, {})
            boxes = boxed(value)
            whole = program_of(head_of(value))
            again = read_program(program_worded(value))
            self.assertEqual(again, value)
            self.assertIs(is_program(whole), True)
            for text in texts_for(value):
                told = run(value, text)
                written, crossings = walk(value, text)
                self.assertEqual("".join(letter for letter, _ in written), told)
                token = led_token(value, text)
                self.assertEqual((token.written(), token.crossings()), (written, crossings))
                self.assertEqual(led(head_of(value), text), (("ends",), written, crossings))
                for other in (whole, again):
                    self.assertEqual(walk(other, text), (written, crossings))
                self.assertEqual(box_text(boxes, text), told)
                for come in (Held(value, text), edited(value, text), Held(value, text).copy(), Desk(value, text).held, replayed(value, text, []).held):
                    self.assertEqual((come.letters(), come.written(), come.size()), (text, told, len(told)))
                self.assertEqual([sign(value, text, which) for which in ("first", "last")], [told[:1], told[len(told) - 1:] if told else ""])
                self.assertEqual(sum(counts(value, text).values()), len(told))
                try:
                    term = term_of(value, text)
                except TooMany:
                    continue
                self.assertEqual(table(term), ((0, told, None),))
                if len(told) < 60:
                    self.assertEqual(normal(term), put(told, END))
                    small += 1
            self.assertEqual(value, held)
        self.assertGreater(small, 200)

    def test_no_place_is_crossed_twice_at_one_end(self):
        for value in VALUES:
            for text in texts_for(value):
                _, crossings = walk(value, text)
                self.assertEqual(len(set(crossings)), len(crossings))
                for boundary in range(len(text) + 1):
                    told = crossed(value, text, boundary)
                    asked = signs(value[1])
                    # Forward first, then back and forward by turns: forward to giving ends of the program's kind.
                    self.assertEqual([asked[end] for end in told], [bool(at % 2 == 0) for at in range(len(told))])

    def test_put_together(self):
        for value in VALUES[:45]:
            for make, wanted in [(turned_in, lambda text: run(value, text[::-1])), (turned_out, lambda text: run(value, text)[::-1]),
                                 (lambda told: both(told, told), lambda text: run(value, text) * 2)]:
                try:
                    come = make(value)
                except TooMany:
                    continue
                for text in texts_for(value):
                    self.assertEqual(run(come, text), wanted(text))
                self.assertEqual(read_program(program_worded(come)), come)


class Terms(unittest.TestCase):
    def test_orders_tables_and_wordings(self):
        numbers = Numbers(903)
        seen = 0
        for _ in range(200):
            kind = made_kind(numbers, 1 + numbers.below(7))
            one, other = made_term(numbers, kind, [], 5), made_term(numbers, kind, [], 5)
            if not is_closed(one) or not is_closed(other):
                continue
            self.assertEqual(read(worded(one), (), kind), one)
            come = one
            while doable(come):
                try:
                    come = done(come, numbers.one_of(doable(come)))
                except TooMany:
                    break
                self.assertEqual(table(come), table(one))
                self.assertEqual(read(worded(come)), come)
            if not doable(come):
                self.assertIs(same_but_names(come, normal(one)), True)
            whole = read_back(kind, table(one))
            self.assertEqual(table(whole), table(one))
            around = parted(kind, one, other)
            alike_whole = reference.without_names(reference.whole(reference.normal(one), kind)) == \
                reference.without_names(reference.whole(reference.normal(other), kind))
            self.assertIs(around is None, alike_whole)
            if around is not None:
                try:
                    self.assertNotEqual(written_in(kind, around, one), written_in(kind, around, other))
                    self.assertEqual(written_in(kind, around, one), written_in(kind, around, whole))
                except HeadError:
                    continue
                self.assertIs(read(worded(around), [("h", kind)], T) == around, True)
                seen += 1
        self.assertGreater(seen, 60)

    def test_tables_are_those_that_read_back(self):
        numbers = Numbers(904)
        seen = {True: 0, False: 0}
        for _ in range(400):
            kind = made_kind(numbers, 1 + numbers.below(6))
            links = made_loose(numbers, kind, signs(kind))
            right = is_table(kind, links)
            seen[right] += 1
            if right:
                self.assertEqual(table(read_back(kind, links)), links)
        self.assertGreater(min(seen.values()), 40)


class Programs(unittest.TestCase):
    def test_alike_and_the_same(self):
        for value in VALUES[:40]:
            whole = program_of(head_of(value))
            try:
                self.assertIs(alike(value, whole), True)
                self.assertIsNone(first_unlike(value, whole))
            except TooMany as many:
                self.assertIn(many.most, (4, 400))
            if places(value) < 200:
                self.assertIs(writes_same(value, whole), True)
                for other in VALUES[:40]:
                    if letters(other) == letters(value) and places(other) < 100:
                        told = first_apart(value, other)
                        if told is not None:
                            self.assertNotEqual(run(value, told), run(other, told))

    def test_regular_languages(self):
        numbers = Numbers(905)
        for value in VALUES[:50]:
            signs_told = "".join(sorted({*reference.letters_put(value), "a"}))
            machine = ("machine", signs_told, tuple(tuple(numbers.below(3) for _ in signs_told) for _ in range(3)), (0,))
            try:
                image = writes_into(value, machine)
            except TooMany:
                continue
            for text in texts_for(value):
                self.assertIs(lets(image, text), lets(machine, run(value, text)))
            self.assertIsNone(leads(value, image, machine))

    def test_stretches(self):
        numbers = Numbers(906)
        for value in VALUES:
            kind = value[1]
            one, other = made_text(numbers, letters(value), 5), made_text(numbers, letters(value), 5)
            double = to(kind, kind)
            self.assertEqual(shape_of(double, stretch(value, one + other)), joined(kind, stretch_shape(value, one), stretch_shape(value, other)))
            behind = called(double, stretch(value, one), table(value[2]))
            self.assertEqual(called(to(kind, T), table(value[4]), behind), ((0, run(value, one), None),))
            held = Held(value, one + other)
            self.assertEqual(held.behind(len(one)), called(double, stretch(value, other), table(value[2])))

    def test_order_groups_and_turnings(self):
        seen = {True: 0, False: 0}
        for value in VALUES:
            whole = program_of(head_of(value))
            if is_ordered_program(value):
                self.assertIs(is_ordered_program(whole), True)
                self.assertEqual(groups(value), [])
                for which in ("first", "last"):
                    self.assertIsNone(turning(value, which))
            for which in ("first", "last"):
                self.assertEqual(sign_machine(whole, which), sign_machine(value, which))
            for _, step in whole[3]:
                seen[is_ordered(step)] += 1
        self.assertGreater(min(seen.values()), 20)


if __name__ == "__main__":
    unittest.main()
