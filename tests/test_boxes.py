"""Point 55: box machines, and those of programs."""

import unittest
from itertools import product

import reference
from oneuseheads.boxes import box_contents, box_text, boxed, is_boxes
from oneuseheads.errors import BadBoxes, BadProgram, BadText, TooMany
from oneuseheads.programs import is_program, letters
from oneuseheads.walks import run
from samples import DOUBLED, DROPPING, END, FORGETTING, Numbers, T, THERE_AND_BACK, TURNED, call, copied, fun
from samples import made_text, n, odd_values, put, refused, spoiled, texts_to, to
from test_programs import BAD_PROGRAMS, great_program
from test_walks import passing_program, programs, texts

ALL = "abcdefghijklmnopqrstuvwxyz"
DOUBLED_BOXES = ("boxes", "ab", ("",), ((1, ((0, ((0, "a", "a"),)), (0, ((0,),))), (0,)),))
# Row 0 has two boxes, row 1 none, row 2 three.
SOME_BOXES = ("boxes", "pq", ("x", ""),
              ((2, ((2, ((1, "c"), ("d",), (0,))), (1, ())), ("z", 1, 0)),
               (0, ((0, (("a", "b"), ())), (1, ())), ("e",)),
               (3, ((2, ((2,), (0, "k", 1), ())), (0, ((), (2, "m", 0)))), (2, "y", 2 - 1))))


def reading(boxes=("",), rows=((1, ((0, ((0,),)),), (0,)),), letters_told="a", word="boxes"):
    return (word, letters_told, boxes, rows)


def box_row(many=1, goal=0, fills=((0,),), out=(0,)):
    return (many, ((goal, fills),), out)


BAD_BOXES = [*odd_values(), TURNED, list(DOUBLED_BOXES), DOUBLED_BOXES[:3], DOUBLED_BOXES + ((),), reading(word="box"),
             reading(letters_told=""), reading(letters_told="ba"), reading(letters_told="ab"), reading(letters_told="A"),
             reading(letters_told=("a",)), reading(boxes=()), reading(boxes=("", "")), reading(boxes=[""]), reading(boxes=("A",)),
             reading(boxes=(None,)), reading(boxes=(("a",),)), reading(rows=()), reading(rows=[box_row()]), reading(rows=(list(box_row()),)),
             reading(rows=(box_row()[:2],)), reading(rows=(box_row() + ((),),)), reading(rows=(box_row(True),)), reading(rows=(box_row(-1),)),
             reading(rows=(box_row(None),)), reading(rows=(box_row(goal=1),)), reading(rows=(box_row(goal=False),)),
             reading(rows=(box_row(goal=-1),)), reading(rows=(box_row(fills=()),)), reading(rows=(box_row(fills=((), ())),)),
             reading(rows=(box_row(fills=[()]),)), reading(rows=(box_row(fills=([0],)),)), reading(rows=(box_row(fills=((1,),)),)),
             reading(rows=(box_row(fills=((0, 0),)),)), reading(rows=(box_row(fills=((False,),)),)), reading(rows=(box_row(fills=((-1,),)),)),
             reading(rows=(box_row(fills=(("ab",),)),)), reading(rows=(box_row(fills=(("",),)),)), reading(rows=(box_row(fills=(("A",),)),)),
             reading(rows=(box_row(fills=((None,),)),)), reading(rows=(box_row(out=[0]),)), reading(rows=(box_row(out=(0, 0)),)),
             reading(rows=(box_row(out=(1,)),)), reading(rows=(box_row(out=(True,)),)), reading(rows=(box_row(out=("ab",)),)),
             reading(rows=(box_row(out=None),)), reading(("", ""), (box_row(2, 0, ((0,), (0,))),)), reading(("", ""), (box_row(2, 0, ((), (1, "a", 1))),)),
             reading(("", ""), (box_row(2, 0, ((), ()), (0, 1, "a", 0)),)),
             reading(rows=((1, ((0, ((0,),)), (0, ((0,),))), (0,)),)), reading(rows=((1, (), (0,)),)), reading(rows=((1, [(0, ((0,),))], (0,)),)),
             reading(rows=((1, ([0, ((0,),)],), (0,)),)), reading(rows=((1, ((0,),), (0,)),)), reading(rows=((1, ((0, ((0,),), ()),), (0,)),)),
             reading(("",) * 61, (box_row(61, 0, ((),) * 61, ()),)), reading((), (box_row(0, 0, (), ()),) * 401)]


def made_boxes(numbers, letters_told, rows, most):
    """A box machine."""
    sizes = [numbers.below(most + 1) for _ in range(rows)]

    def pieces(free):
        found = []
        for _ in range(numbers.below(4)):
            if free and numbers.below(2):
                found.append(free.pop(numbers.below(len(free))))
            else:
                found.append(numbers.one_of("abxyz"))
        return tuple(found)

    told = []
    for size in sizes:
        moves = []
        for _ in letters_told:
            goal = numbers.below(rows)
            free = list(range(size))
            moves.append((goal, tuple(pieces(free) for _ in range(sizes[goal]))))
        told.append((size, tuple(moves), pieces(list(range(size)))))
    return ("boxes", letters_told, tuple(made_text(numbers, "ab", 2) for _ in range(sizes[0])), tuple(told))


def machines(many=60):
    numbers = Numbers(401)
    return [DOUBLED_BOXES, SOME_BOXES,
            *[made_boxes(numbers, numbers.one_of(["a", "ab", "bcz"]), 1 + numbers.below(4), 4) for _ in range(many)]]


class IsBoxes(unittest.TestCase):
    def test_box_machines(self):
        wide = reading(("",) * 60, (box_row(60, 0, tuple((at,) for at in range(60)), tuple(range(60))),))
        for value in [*machines(), reading(), wide, reading((), (box_row(0, 0, (), ()),) * 400), reading((), (box_row(0, 0, (), ()),)),
                      ("boxes", ALL, (), ((0, ((0, ()),) * 26, ("a",)),))]:
            self.assertIs(is_boxes(value), True, value)
            self.assertIs(is_boxes(value=value), True)
            self.assertTrue(reference.is_box_machine(value))

    def test_no_box_machines(self):
        for value in BAD_BOXES:
            self.assertIs(is_boxes(value), False, value)
            self.assertFalse(reference.is_box_machine(value), value)

    def test_wrong_in_one_place(self):
        for value in machines(4):
            for other in spoiled(value):
                self.assertIs(is_boxes(other), reference.is_box_machine(other), other)


class Reads(unittest.TestCase):
    def test_examples(self):
        self.assertEqual(box_contents(DOUBLED_BOXES, "abab"), (0, ["aaaa"]))
        self.assertEqual(box_text(boxes=DOUBLED_BOXES, text="abab"), "aaaa")
        self.assertEqual(box_contents(boxes=SOME_BOXES, text=""), (0, ["x", ""]))
        self.assertEqual(box_text(SOME_BOXES, ""), "zx")
        self.assertEqual(box_contents(SOME_BOXES, "p"), (2, ["c", "d", "x"]))
        self.assertEqual(box_text(SOME_BOXES, "p"), "xyd")
        self.assertEqual(box_contents(SOME_BOXES, "pp"), (2, ["x", "ckd", ""]))
        self.assertEqual(box_contents(SOME_BOXES, "ppq"), (0, ["", "mx"]))
        self.assertEqual(box_contents(SOME_BOXES, "qq"), (1, []))
        self.assertEqual(box_text(SOME_BOXES, "qp"), "zab")

    def test_as_told_by_the_rules(self):
        numbers = Numbers(403)
        for boxes in machines(120):
            for text in ["", *[made_text(numbers, boxes[1], 9) for _ in range(8)]]:
                held = copied(boxes, {})
                row, told = reference.box_contents(boxes, text)
                self.assertEqual(box_contents(boxes, text), (row, told))
                self.assertEqual(box_text(boxes, text), reference.put_together(boxes[3][row][2], told))
                self.assertEqual(boxes, held)

    def test_long_texts(self):
        text = "ab" * 100000
        self.assertEqual(box_text(DOUBLED_BOXES, text), "a" * 200000)
        self.assertEqual(box_contents(boxed(TURNED), text), (0, [text[::-1], ""]))
        self.assertEqual(box_text(boxed(THERE_AND_BACK), "a" * 1000), "s" + "a" * 1000 + "m" + "a" * 1000 + "t")

    def test_new(self):
        _, held = box_contents(SOME_BOXES, "p")
        held.append("more")
        self.assertEqual(box_contents(SOME_BOXES, "p"), (2, ["c", "d", "x"]))

    def test_wrong(self):
        bad = [value for value in odd_values() if value not in ("", "a", "x")] + ["abc", "A", "a b", ["a"], ("a",), "ab\n", "c"]
        for function in (box_contents, box_text):
            refused(self, function, {"boxes": DOUBLED_BOXES, "text": "ab"}, [("boxes", BadBoxes, BAD_BOXES), ("text", BadText, bad)])


class Boxed(unittest.TestCase):
    def test_examples(self):
        self.assertEqual(boxed(program=DOUBLED), DOUBLED_BOXES)
        self.assertEqual(boxed(TURNED), ("boxes", "ab", ("", ""), ((2, ((0, (("a", 0), (1,))), (0, (("b", 0), (1,)))), (1, 0)),)))
        self.assertEqual(boxed(DROPPING), ("boxes", "q", ("k",), ((1, ((0, ((0,),)),), (0,)),)))
        self.assertEqual(boxed(FORGETTING),
                         ("boxes", "ab", ("z",), ((1, ((1, ((0, "a"),)), (0, ((0, "b"),))), (0, "c")), (1, ((1, ((0,),)), (1, ((0,),))), (0,)))))
        self.assertEqual(boxed(THERE_AND_BACK), ("boxes", "ab", ("t", "s"),
                                                 ((2, ((0, (("a", 0), (1, "a"))), (0, (("b", 0), (1,)))), (1, "m", 0)),)))

    def test_rows_and_contents_are_those_of_the_fronts(self):
        rows = 0
        for value in [*programs(80, 8), led_round([3, 4], True), led_round([2, 3, 2]), led_round([2, 2], True, True, "b")]:
            boxes = boxed(value)
            self.assertIs(is_boxes(boxes), True)
            self.assertEqual(boxes[1], letters(value))
            numbers, firsts = reference.fronts(value)
            self.assertEqual(len(boxes[3]), len(firsts))
            rows = max(rows, len(firsts))
            _, steps, last = reference.links_of_program(value)
            for text in [*firsts, *texts(value, 5), *[text + letter for text in firsts for letter in letters(value)]]:
                links = reference.left_links(value[1], steps, last, text)
                shape = tuple((end, goal) for end, _, goal in links)
                words = ["".join(letter for letter, _ in written) for _, written, _ in links]
                self.assertEqual(box_contents(boxes, text), (numbers[shape], words))
                self.assertEqual(boxes[3][numbers[shape]][0], len(links))
        self.assertEqual(rows, 13)

    def test_pieces_are_led_by_the_walk(self):
        for value in [*programs(40, 6), led_round([3, 4], True), led_round([2, 3, 2])]:
            init, steps, last = reference.links_of_program(value)
            numbers, firsts = reference.fronts(value)
            boxes = boxed(value)
            for row, text in enumerate(firsts):
                # Each box is told by a sign of its own, so the pieces can be read off what is written.
                links = reference.left_links(value[1], steps, last, text)
                marked = tuple((end, ALL[at].upper(), goal) for at, (end, _, goal) in enumerate(links))
                ends = [end for end, _, _ in links]
                self.assertEqual(boxes[3][row][0], len(ends))
                for at, (letter, _) in enumerate(steps):
                    wanted = reference.left_links(value[1], steps, marked, letter)
                    fills = tuple(tuple(ALL.index(sign.lower()) if sign.isupper() else sign for sign, _ in written)
                                  for _, written, _ in wanted)
                    shape = tuple((end, goal) for end, _, goal in wanted)
                    self.assertEqual(boxes[3][row][1][at], (numbers[shape], fills))
                _, out, _ = reference.walk(value[1], init, [], marked, "")
                self.assertEqual(boxes[3][row][2], tuple(ALL.index(sign.lower()) if sign.isupper() else sign for sign, _ in out))

    def test_what_it_writes(self):
        for value in [*programs(80, 9), passing_program(28, "b"), passing_program(30, ""), great_program(30)]:
            boxes = boxed(value)
            for text in texts(value, 12):
                self.assertEqual(box_text(boxes, text), run(value, text))
        numbers = Numbers(407)
        for value in programs(15):
            text = made_text(numbers, letters(value), 1) + "".join(numbers.one_of(letters(value)) for _ in range(1000))
            self.assertEqual(box_text(boxed(value), text), run(value, text))

    def test_all_texts(self):
        for value in programs(25):
            boxes = boxed(value)
            for length in range(5):
                for signs in product(letters(value), repeat=length):
                    text = "".join(signs)
                    self.assertEqual(box_text(boxes, text), run(value, text))

    def test_many_shapes(self):
        self.assertEqual(len(boxed(led_round([4, 10, 10]))[3]), 400)
        self.assertEqual(len(boxed(led_round([4, 10, 9], True))[3]), 361)
        for value in (led_round([4, 10, 10], True), led_round([7, 7, 9])):
            with self.assertRaises(TooMany) as found:
                boxed(value)
            self.assertEqual(found.exception.most, 400)
        value = led_round([3, 4, 5], True)
        for text in ["", "abc", "aabbbccabc", "abcdabc"]:
            self.assertEqual(box_text(boxed(value), text), run(value, text))

    def test_wrong(self):
        refused(self, boxed, {"program": TURNED}, [("program", BadProgram, [*BAD_PROGRAMS, great_program(31)])])


def led_round(sizes, forgets=False, at_once=False, own=""):
    """A program that keeps functions of so many texts each, and leads each round by a letter of its own.

    If it forgets, it has one more letter, with which all of them become empty. At once they are all led round by
    the first letter. The letters in own do nothing.
    """
    kinds = [texts_to(size) for size in sizes]
    kind = to(*kinds, T)
    names = [letter + "f" for letter in "pqrstu"[:len(sizes)]]

    def funs(size, inner):
        for at in reversed(range(size)):
            inner = fun("x" + ALL[at], T, inner)
        return inner

    def turned(name, size):
        return funs(size, call(n(name), *[n("x" + ALL[(at + 1) % size]) for at in range(size)]))

    def step(made):
        body = call(n("f"), *made)
        for name, kind_told in zip(reversed(names), reversed(kinds)):
            body = fun(name, kind_told, body)
        return fun("f", kind, body)

    told = [[turned(name, size) if other == name or at_once else n(name) for name, size in zip(names, sizes)] for other in names]
    made = told[:1] if at_once else told
    if forgets:
        made = made + [[funs(size, put("o", END)) for size in sizes]]
    steps = [step(row) for row in made]
    signs = [letter for letter in "abcd" if letter not in own][:len(steps)]
    pairs = [*zip(signs, steps), *[(letter, fun("f", kind, n("f"))) for letter in own]]
    last = fun("f", kind, call(n("f"), *[funs(size, put("l", n("xa"))) for size in sizes]))
    init = call(n(names[0]), *[put(ALL[at], END) for at in range(sizes[0])])
    for name, kind_told in zip(reversed(names), reversed(kinds)):
        init = fun(name, kind_told, init)
    value = ("program", kind, init, tuple(sorted(pairs)), last)
    assert is_program(value)
    return value


if __name__ == "__main__":
    unittest.main()
