"""Points 28 and 29: heads."""

import unittest

import reference
from oneuseheads.errors import BadHead, BadProgram, BadText, NoProgram, TooMany
from oneuseheads.heads import head_of, is_head, led, program_of
from oneuseheads.programs import is_program, letters
from oneuseheads.tables import is_table, table
from oneuseheads.terms import same_but_names
from oneuseheads.walks import run, walk
from samples import Numbers, PROGRAMS, T, TT, TURNED, made_kind, made_loose, made_text, odd_values, refused, spoiled, texts_to
from samples import to
from test_programs import BAD_PROGRAMS, great_program
from test_tables import table_by_chance
from test_walks import BAD_TEXTS, programs, texts

TURNED_HEAD = ("head", TT, ((1, "", 0),), (("a", ((0, "a", 2), (3, "", 1))), ("b", ((0, "b", 2), (3, "", 1)))),
               ((0, "", None), (2, "", 1)))


def head(kind=T, init=(), steps=(("a", ()),), last=()):
    return ("head", kind, init, steps, last)


def is_loose(kind, value):
    rows = reference.ends_of(kind)
    if type(value) is not tuple:
        return False
    for link in value:
        if type(link) is not tuple or len(link) != 3 or type(link[0]) is not int or type(link[1]) is not str:
            return False
        if not 0 <= link[0] < len(rows) or not rows[link[0]][0] or any(sign not in reference.LETTERS for sign in link[1]):
            return False
        if link[2] is not None and (type(link[2]) is not int or not 0 <= link[2] < len(rows) or rows[link[2]][0]):
            return False
    ends = [link[0] for link in value]
    goals = [link[2] for link in value if link[2] is not None]
    return ends == sorted(set(ends)) and len(goals) == len(set(goals))


def right_head(value):
    if type(value) is not tuple or len(value) != 5 or type(value[0]) is not str or value[0] != "head":
        return False
    _, kind, init, steps, last = value
    if not reference.is_kind(kind) or 2 * reference.size(kind) > 60 or type(steps) is not tuple or not 1 <= len(steps) <= 4:
        return False
    for step in steps:
        if type(step) is not tuple or len(step) != 2 or type(step[0]) is not str or len(step[0]) != 1:
            return False
        if step[0] not in reference.LETTERS or not is_loose(to(kind, kind), step[1]):
            return False
    if any(one[0] >= other[0] for one, other in zip(steps, steps[1:])):
        return False
    return is_loose(kind, init) and is_loose(to(kind, T), last)


def empty_steps(letters_told):
    return tuple((letter, ()) for letter in letters_told)


BAD_HEADS = [*odd_values(), TURNED, list(TURNED_HEAD), TURNED_HEAD[:4], TURNED_HEAD + ((),), head(steps=()),
             head(steps=empty_steps("abcde")), head(steps=empty_steps("ba")), head(steps=empty_steps("aa")), head(init=[]),
             head(last=None), head(steps=empty_steps("A")), head(steps=(("a", (), ()),)), head(steps=[("a", ())]),
             head(steps=(["a", ()],)), head(init=((1, "", None),)), head(last=((0, "", None),)), head(init=((0, "A", None),)),
             head(init=((0, "", 0),)), head(init=((0, "", None), (0, "a", None))), head(kind=["text"]), head(last=((True, "", 0),)),
             head(steps=(("a", ((1, "", 1),)),)), head(TT, last=((0, "", 1), (2, "", 1))), head(TT, last=((2, "", 1), (0, "", None))),
             head(last=((1, "", False),)), head(last=([1, "", 0],)), head(steps=(("a", [(1, "", 0)]),)), head(texts_to(30))]


def loose_heads(many):
    numbers = Numbers(81)
    found = []
    for _ in range(many):
        kind = made_kind(numbers, 1 + numbers.below(6))
        told = [[row[0] for row in reference.ends_of(part)] for part in (kind, to(kind, kind), to(kind, T))]
        steps = tuple((letter, made_loose(numbers, to(kind, kind), told[1])) for letter in numbers.one_of(["a", "bq", "abc"]))
        found.append(head(kind, made_loose(numbers, kind, told[0]), steps, made_loose(numbers, to(kind, T), told[2])))
    return found


class IsHead(unittest.TestCase):
    def test_heads(self):
        for value in [TURNED_HEAD, head(), head(texts_to(29)), head(steps=empty_steps("abcz")), *loose_heads(50),
                      head(last=((1, "a" * 1000, 0),)), head(TT, last=((0, "", None), (2, "", None)))]:
            self.assertIs(is_head(value), True, value)
            self.assertIs(is_head(value=value), True)

    def test_no_heads(self):
        for value in BAD_HEADS:
            self.assertIs(is_head(value), False, value)

    def test_wrong_in_one_place(self):
        for value in [TURNED_HEAD, *loose_heads(6)]:
            for other in spoiled(value):
                self.assertIs(is_head(other), right_head(other), other)


class HeadOf(unittest.TestCase):
    def test_example(self):
        self.assertEqual(head_of(TURNED), TURNED_HEAD)
        self.assertEqual(head_of(program=TURNED), TURNED_HEAD)

    def test_tables(self):
        for value in programs():
            _, kind, init, steps, last = head_of(value)
            self.assertEqual(kind, value[1])
            self.assertEqual(init, reference.table_by_normal_form(value[2], kind))
            for (letter, links), (wanted, step) in zip(steps, value[3], strict=True):
                self.assertEqual(letter, wanted)
                self.assertEqual(links, reference.table_by_normal_form(step, to(kind, kind)))
            self.assertEqual(last, reference.table_by_normal_form(value[4], to(kind, T)))
            self.assertIs(is_head(head_of(value)), True)

    def test_wrong(self):
        refused(self, head_of, {"program": TURNED}, [("program", BadProgram, [*BAD_PROGRAMS, TURNED_HEAD])])


class Led(unittest.TestCase):
    def test_examples(self):
        self.assertEqual(led(TURNED_HEAD, "ab"), (("ends",), *walk(TURNED, "ab")))
        self.assertEqual(led(head=head(), text="aa"), (("stuck", 0, 1), (), ()))
        self.assertEqual(led(head(last=((1, "x", 0),)), ""), (("stuck", 1, 0), (("x", 0),), ((0, 0),)))
        self.assertEqual(led(head(last=((1, "x", 0),)), "a"), (("stuck", 1, 1), (("x", 0),), ((0, 0),)))
        self.assertEqual(led(head(last=((1, "x", None),)), "a"), (("ends",), (("x", 0),), ()))
        back = head(TT, steps=(("a", ((3, "y", 2),)),), last=((2, "x", 1),))
        self.assertEqual(led(back, "aa"), (("stuck", 0, 0), (("x", 0), ("y", 1)), ((0, 1), (0, 0))))
        turned_back = head(TT, init=((1, "i", 0),), last=((2, "x", 1),))
        self.assertEqual(led(turned_back, ""), (("stuck", 0, 0), (("x", 0), ("i", 1)), ((0, 1), (0, 0))))

    def test_as_told_by_the_rules(self):
        numbers = Numbers(83)
        stuck = 0
        for value in loose_heads(300):
            for text in ["", *[made_text(numbers, [letter for letter, _ in value[3]], 7) for _ in range(4)]]:
                told = led(value, text)
                self.assertEqual(told, reference.walk(*value[1:], text))
                stuck += told[0] != ("ends",)
                # No head goes round.
                self.assertLessEqual(len(told[2]), reference.size(value[1]) * (len(text) + 1))
                self.assertEqual(len(set(told[2])), len(told[2]))
        self.assertGreater(stuck, 100)

    def test_long_texts(self):
        text = "ab" * 1500
        self.assertEqual(led(TURNED_HEAD, text), (("ends",), *walk(TURNED, text)))

    def test_heads_of_programs_are_never_stuck(self):
        for value in programs():
            for text in texts(value, 10):
                end, written, _ = led(head_of(value), text)
                self.assertEqual(end, ("ends",))
                self.assertEqual("".join(letter for letter, _ in written), run(value, text))

    def test_wrong(self):
        refused(self, led, {"head": TURNED_HEAD, "text": "ab"}, [("head", BadHead, BAD_HEADS), ("text", BadText, BAD_TEXTS)])


class ProgramOf(unittest.TestCase):
    def test_example(self):
        value = program_of(TURNED_HEAD)
        self.assertEqual(value[:2], ("program", TT))
        self.assertEqual(value, program_of(head=TURNED_HEAD))
        self.assertEqual(value[2], ("fun", "a", T, ("name", "a")))
        self.assertEqual(value[4], ("fun", "b", TT, ("call", ("name", "b"), ("end",))))
        self.assertEqual([letter for letter, _ in value[3]], ["a", "b"])
        self.assertIs(is_program(value), True)
        self.assertEqual(head_of(value), TURNED_HEAD)

    def test_back_and_forth(self):
        for value in programs():
            come = program_of(head_of(value))
            self.assertEqual(head_of(come), head_of(value))
            kind = value[1]
            places = [(kind, value[2], come[2]), (to(kind, T), value[4], come[4])]
            places += [(to(kind, kind), step, other) for (_, step), (_, other) in zip(value[3], come[3], strict=True)]
            for part_kind, term, read in places:
                self.assertTrue(same_but_names(read, reference.whole(reference.normal(term), part_kind)))
                self.assertEqual(read, reference.written_whole(part_kind, table(term)))
            self.assertEqual(letters(come), letters(value))
            for text in texts(value):
                self.assertEqual(walk(come, text), walk(value, text))

    def test_of_heads_by_chance(self):
        numbers = Numbers(87)
        for _ in range(60):
            kind = made_kind(numbers, 1 + numbers.below(8))
            steps = tuple((letter, table_by_chance(numbers, to(kind, kind))) for letter in "ab")
            value = head(kind, table_by_chance(numbers, kind), steps, table_by_chance(numbers, to(kind, T)))
            self.assertEqual(head_of(program_of(value)), value)

    def test_no_program(self):
        right = 0
        for value in loose_heads(400):
            _, kind, init, steps, last = value
            told = [is_table(kind, init), is_table(to(kind, T), last), *[is_table(to(kind, kind), links) for _, links in steps]]
            if all(told):
                right += 1
                self.assertEqual(head_of(program_of(value)), value)
            else:
                self.assertRaises(NoProgram, program_of, value)
        self.assertGreater(right, 3)

    def test_each_place_must_read_back(self):
        _, kind, init, steps, last = TURNED_HEAD
        for value in [head(kind, (), steps, last), head(kind, init, (steps[0], ("b", ())), last), head(kind, init, steps, ()),
                      head(kind, init, (("a", steps[0][1][:1]), steps[1]), last),
                      head(kind, init, steps, ((0, "", 1), (2, "", None)))]:
            self.assertIs(is_head(value), True)
            self.assertRaises(NoProgram, program_of, value)

    def test_too_many(self):
        def long_head(init=0, step=0, last=0, other=()):
            return head(T, ((0, "a" * init, None),), (("a", ((1, "b" * step, 0),)), ("b", other or ((1, "", 0),))),
                        ((1, "c" * last, 0),))

        wanted = [(dict(init=59, step=58, last=58), None), (dict(init=60), 60), (dict(init=400), 400), (dict(step=59), 60),
                  (dict(step=399), 400), (dict(last=59), 60), (dict(last=399), 400), (dict(init=60, step=399), 60),
                  (dict(init=400, step=59), 400), (dict(step=59, last=399), 60), (dict(step=399, last=59), 400),
                  (dict(init=60, last=500), 60), (dict(step=60, other=((1, "b" * 500, 0),)), 60),
                  (dict(last=60, other=((1, "b" * 500, 0),)), 400), (dict(step=398), 60)]
        for told, most in wanted:
            value = long_head(**told)
            if most is None:
                self.assertEqual(head_of(program_of(value)), value)
            else:
                with self.assertRaises(TooMany) as found:
                    program_of(value)
                self.assertEqual(found.exception.most, most, told)
        # What does not read back is told ahead of what is too great.
        self.assertRaises(NoProgram, program_of, head(T, ((0, "a" * 500, None),), (("a", ()),), ((1, "", 0),)))

    def test_wrong(self):
        refused(self, program_of, {"head": TURNED_HEAD}, [("head", BadHead, BAD_HEADS)])
        self.assertIs(is_head(head_of(great_program(30))), True)
        self.assertEqual(len(PROGRAMS), 5)


if __name__ == "__main__":
    unittest.main()
