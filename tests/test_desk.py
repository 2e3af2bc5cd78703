"""Points 69 and 70: a held text that is led by lines, and its journal."""

import unittest

from drawn import drawn_programs
from oneuseheads.desk import Desk, replayed
from oneuseheads.errors import BadJournal, BadLine, BadProgram, BadText, HeadError
from oneuseheads.held import Held
from oneuseheads.programs import letters
from oneuseheads.walks import run
from samples import DOUBLED, DROPPING, FORGETTING, Numbers, PROGRAMS, THERE_AND_BACK, TURNED, copied, made_text, odd_values, refused
from test_programs import BAD_PROGRAMS, great_program
from test_walks import BAD_TEXTS, programs

UNKNOWN = ["", " ", "text ", " text", "text text", "put", "put ", "put 0", "put 0 ", "put  0 a", "put 0  a", "put 0 a ", " put 0 a", "put a 0",
           "put 0 A", "put 00 a", "put 01 a", "put +0 a", "put -1 a", "put -0 a", "put 0 a b", "put 0 1", "put 0 a1", "put 0 \u00e4", "put \u00b2 a",
           "put \u0661 a", "put 1_0 a", "put 1.0 a", "put 1000000000 a", "put 9999999999 a", "Put 0 a", "PUT 0 a", "put\t0 a", "put 0\ta",
           "take 0", "take 0 0 0", "take 0 a", "take 00 0", "take 0 00", "take 0 0000000000", "take 0 1234567890", "take", "swap 0", "swap 0 ab",
           "swap 0 ", "swap 0 A", "swap 01 a", "swap a 0", "undo 1", "undo ", "Undo", "undoundo", "length 0", "size ", "sizes", "piece 0", "piece",
           "piece 0 0 0", "piece 0 01", "piece 0 -0", "origin", "origin ", "origin 0 0", "origin a", "spots", "spots 00", "spots 0 0", "cuts",
           "cuts 0 0", "cuts -0", "unread 0", "written 0", "journal", "held", "say text", "text\r", "text\x0b", "text\x00", "letters", "exchange 0 a",
           "made", "copy", "put 0 a\t", "text;", "put,0,a", "take 0 \u0660", "\u00a0text", "cuts 0\u00a0", "ahead 0", "behind 0", "origin 0.0"]
BAD_LINES = [*[value for value in odd_values() if not isinstance(value, str)], "\n", "text\n", "put 0 a\n", "\ntext", "te\nxt", "put 0 a\nput 0 a", ["text"],
             ("text",), b"text", 0, None, True]


def said_by_methods(held, words):
    """What a line should be answered by what a Held tells or does beside it."""
    try:
        if words[0] == "put":
            held.put_in(int(words[1]), words[2])
        elif words[0] == "take":
            held.take_out(int(words[1]), int(words[2]))
        elif words[0] == "swap":
            held.exchange(int(words[1]), words[2])
        elif words[0] == "text":
            return [held.letters()]
        elif words[0] == "written":
            return [held.written()]
        elif words[0] == "length":
            return [str(held.length())]
        elif words[0] == "size":
            return [str(held.size())]
        elif words[0] == "piece":
            return [held.piece(int(words[1]), int(words[2]))]
        elif words[0] == "origin":
            return [str(held.origin(int(words[1])))]
        elif words[0] == "spots":
            return [str(spot) for spot in held.spots(int(words[1]))]
        elif words[0] == "unread":
            return [str(place) for place in held.unread()]
        elif words[0] == "cuts":
            return [side + " " + str(begin) + " " + str(end) for side, begin, end in held.cuts(int(words[1]))]
        return ["done"]
    except HeadError:
        return ["refused"]


def drawn_line(numbers, held, signs):
    """A line by chance, most of them such as can be answered."""
    def number(most):
        return str(numbers.one_of([numbers.below(most + 1), numbers.below(most + 1), most, most + 1, 0, 999999999]))

    n, m = held.length(), held.size()
    which = numbers.below(14)
    if which < 3:
        return "put " + number(n) + " " + (made_text(numbers, signs, 3) or signs[0]) + numbers.one_of(["", "", "", "q"])
    if which < 5:
        return "take " + number(n) + " " + numbers.one_of(["0", "1", "2", number(n)])
    if which < 7:
        return "swap " + number(max(n - 1, 0)) + " " + numbers.one_of(signs + "q")
    return [lambda: "text", lambda: "written", lambda: numbers.one_of(["length", "size", "unread"]), lambda: "piece " + number(m) + " " + number(m),
            lambda: "origin " + number(max(m - 1, 0)), lambda: "spots " + number(n + 1), lambda: "cuts " + number(n)][which - 7]()


def told_by(held):
    """All that a Held tells, but for how many tables were made."""
    n, m = held.length(), held.size()
    return (held.letters(), held.written(), held.unread(), [held.origin(spot) for spot in range(m)], [held.spots(place) for place in range(n + 2)],
            [held.cuts(at) for at in range(n + 1)], [held.ahead(at) for at in range(n + 1)], [held.behind(at) for at in range(n + 1)])


def all_programs():
    return [*PROGRAMS, *programs(15), *drawn_programs(Numbers(831), 15)]


class Say(unittest.TestCase):
    def test_examples(self):
        desk = Desk(TURNED)
        told = [("text", [""]), ("put 0 aab", ["done"]), ("text", ["aab"]), ("written", ["baa"]), ("length", ["3"]), ("size", ["3"]),
                ("swap 1 b", ["done"]), ("written", ["bba"]), ("piece 0 2", ["bb"]), ("piece 3 3", [""]), ("origin 0", ["3"]), ("spots 1", ["2"]),
                ("spots 0", []), ("unread", []), ("cuts 1", ["ahead 0 0", "behind 0 2", "ahead 2 3"]), ("take 0 2", ["done"]), ("text", ["b"]),
                ("undo", ["done"]), ("text", ["abb"]), ("undo", ["done"]), ("undo", ["done"]), ("text", [""]), ("undo", ["nothing"]),
                ("put 1 a", ["refused"]), ("put 0 c", ["refused"]), ("take 0 1", ["refused"]), ("swap 0 a", ["refused"]), ("piece 0 1", ["refused"]),
                ("origin 0", ["refused"]), ("spots 2", ["refused"]), ("cuts 1", ["refused"]), ("hello", ["unknown"])]
        for line, answer in told:
            self.assertEqual(desk.say(line), answer, line)
        self.assertEqual(Desk(program=FORGETTING, text="bab").say(line="unread"), ["3"])
        self.assertEqual(Desk(DROPPING, "qq").say("unread"), ["1", "2"])
        self.assertIsInstance(desk.held, Held)
        self.assertEqual(Desk(DOUBLED, text="ab").held.written(), "aa")

    def test_each_line_as_the_methods(self):
        numbers = Numbers(832)
        seen = {}
        for value in all_programs():
            text = made_text(numbers, letters(value), 6)
            desk, beside = Desk(value, text), Held(value, text)
            journal, texts = [], []
            for _ in range(60):
                if numbers.below(6) == 0:
                    self.assertEqual(desk.say("undo"), ["done"] if journal else ["nothing"])
                    if journal:
                        journal.pop()
                        beside = Held(value, texts.pop())
                else:
                    line = drawn_line(numbers, beside, letters(value))
                    ahead = beside.letters()
                    wanted = said_by_methods(beside, line.split(" "))
                    self.assertEqual(desk.say(line), wanted, line)
                    if wanted == ["done"]:
                        journal.append(line)
                        texts.append(ahead)
                    seen[(line.split(" ")[0], wanted == ["refused"])] = True
                self.assertEqual(desk.journal(), journal)
                self.assertEqual(desk.held.letters(), beside.letters())
                self.assertEqual(desk.held.written(), run(value, beside.letters()))
        self.assertEqual(len(seen), 12 + 7)

    def test_unknown_lines(self):
        desk = Desk(TURNED, "ab")
        desk.say("put 0 a")
        for line in UNKNOWN:
            self.assertEqual(desk.say(line), ["unknown"], line)
            self.assertEqual((desk.held.letters(), desk.journal()), ("aab", ["put 0 a"]))

    def test_numbers(self):
        desk = Desk(TURNED, "a" * 12)
        for line in ["put 12 b", "take 10 1", "swap 9 b", "piece 9 11", "origin 10", "spots 10", "cuts 10"]:
            self.assertNotIn(desk.say(line), (["refused"], ["unknown"]), line)
        for line in ["put 999999999 b", "take 999999999 0", "take 0 999999999", "swap 999999999 b", "piece 0 999999999", "piece 999999999 999999999",
                     "origin 999999999", "spots 999999999", "cuts 999999999", "piece 5 4", "put 100000000 q", "put 0 q", "put 0 aq", "swap 0 q"]:
            self.assertEqual(desk.say(line), ["refused"], line)
            self.assertEqual(desk.say(line.replace("999999999", "9999999999").replace("100000000", "0100000000")),
                             ["unknown"] if "9" in line or "1000" in line else ["refused"])
        self.assertEqual(desk.journal(), ["put 12 b", "take 10 1", "swap 9 b"])

    def test_refused_changes_nothing(self):
        desk = Desk(DOUBLED, "ab")
        desk.say("put 1 b")
        for line in ["put 0 abc", "put 9 a", "take 1 3", "take 4 0", "swap 3 a", "swap 0 c", "piece 1 0", "origin 2", "spots 5", "cuts 4"]:
            self.assertEqual(desk.say(line), ["refused"], line)
            self.assertEqual((desk.held.letters(), desk.journal()), ("abb", ["put 1 b"]))
        self.assertEqual(desk.say("undo"), ["done"])
        self.assertEqual((desk.held.letters(), desk.journal()), ("ab", []))
        self.assertEqual(desk.say("undo"), ["nothing"])

    def test_answers_may_be_changed(self):
        desk = Desk(TURNED, "ab")
        for line in ["text", "written", "spots 1", "cuts 1", "unread", "nothing at all", "put 0 q", "put 0 a", "undo", "undo"]:
            wanted = list(Desk(TURNED, "ab").say(line)) if "undo" not in line else None
            told = desk.say(line)
            if wanted is not None:
                self.assertEqual(told, wanted)
            told.append("more")
            told[0] = "else"
        self.assertEqual((desk.say("text"), desk.say("undo"), desk.say("what")), (["ab"], ["nothing"], ["unknown"]))

    def test_wrong(self):
        refused(self, Desk, {"program": TURNED, "text": "ab"},
                [("program", BadProgram, [*BAD_PROGRAMS, great_program(31)]), ("text", BadText, BAD_TEXTS)])
        desk = Desk(TURNED, "ab")
        refused(self, desk.say, {"line": "text"}, [("line", BadLine, BAD_LINES)])
        self.assertEqual((desk.held.letters(), desk.journal()), ("ab", []))


class Undo(unittest.TestCase):
    def test_deed_by_deed(self):
        numbers = Numbers(833)
        for value in all_programs():
            text = made_text(numbers, letters(value), 5)
            desk = Desk(value, text)
            texts = [text]
            for _ in range(12):
                line = drawn_line(numbers, desk.held, letters(value))
                if desk.say(line) == ["done"]:
                    texts.append(desk.held.letters())
            journal = desk.journal()
            self.assertEqual(len(journal), len(texts) - 1)
            while len(texts) > 1:
                texts.pop()
                self.assertEqual(desk.say("undo"), ["done"])
                self.assertEqual(desk.say("text"), [texts[-1]])
                self.assertEqual(desk.journal(), journal[:len(texts) - 1])
                self.assertEqual(told_by(desk.held), told_by(Held(value, texts[-1])))
            self.assertEqual(desk.say("undo"), ["nothing"])
            self.assertEqual(desk.say("text"), [text])

    def test_deeds_that_change_nothing_are_deeds(self):
        desk = Desk(TURNED, "ab")
        for line in ["take 0 0", "take 2 0", "swap 0 a", "swap 1 b"]:
            self.assertEqual(desk.say(line), ["done"])
        self.assertEqual(desk.journal(), ["take 0 0", "take 2 0", "swap 0 a", "swap 1 b"])
        for many in (3, 2, 1, 0):
            self.assertEqual(desk.say("undo"), ["done"])
            self.assertEqual((desk.held.letters(), len(desk.journal())), ("ab", many))
        self.assertEqual(desk.say("undo"), ["nothing"])

    def test_undo_is_no_deed(self):
        desk = Desk(DOUBLED, "")
        for line in ["put 0 a", "put 0 b", "undo", "put 1 b", "undo", "undo"]:
            self.assertEqual(desk.say(line), ["done"])
        self.assertEqual((desk.journal(), desk.held.letters(), desk.say("undo")), ([], "", ["nothing"]))

    def test_long_texts(self):
        desk = Desk(DOUBLED, "ab" * 3000)
        made = desk.held.made()
        for line in ["put 3000 bb", "take 17 2", "swap 5000 b", "put 0 a", "take 5990 11"]:
            self.assertEqual(desk.say(line), ["done"])
        for _ in range(5):
            self.assertEqual(desk.say("undo"), ["done"])
        self.assertEqual(desk.held.letters(), "ab" * 3000)
        self.assertEqual(desk.held.written(), "aa" * 3000)
        # A deed and taking it back make a few tables each.
        self.assertLessEqual(desk.held.made() - made, 2 * 5 * 2 * 60 * 13 + 60)


class Journal(unittest.TestCase):
    def test_examples(self):
        desk = Desk(TURNED, "ab")
        for line in ["put 1 bb", "text", "take 0 1", "undo", "swap 0 b", "swap 9 b", "what"]:
            desk.say(line)
        self.assertEqual(desk.journal(), ["put 1 bb", "swap 0 b"])
        again = replayed(program=TURNED, text="ab", journal=desk.journal())
        self.assertIsInstance(again, Desk)
        self.assertEqual((again.journal(), again.held.letters()), (["put 1 bb", "swap 0 b"], "bbbb"))
        self.assertEqual(replayed(TURNED, "ab", ()).held.letters(), "ab")
        self.assertEqual(replayed(TURNED, "", ("put 0 a", "put 0 b")).journal(), ["put 0 a", "put 0 b"])

    def test_new_each_time(self):
        desk = Desk(TURNED, "ab")
        desk.say("put 0 a")
        told = desk.journal()
        told.append("put 0 b")
        told[0] = "x"
        self.assertEqual(desk.journal(), ["put 0 a"])
        lines = ["put 0 a", "swap 1 b"]
        again = replayed(TURNED, "ab", lines)
        lines.append("take 0 1")
        lines[0] = "put 0 b"
        self.assertEqual(again.journal(), ["put 0 a", "swap 1 b"])
        self.assertEqual(again.say("undo"), ["done"])
        self.assertEqual((lines, again.journal()), (["put 0 b", "swap 1 b", "take 0 1"], ["put 0 a"]))

    def test_done_again(self):
        numbers = Numbers(834)
        for value in all_programs():
            text = made_text(numbers, letters(value), 4)
            desk = Desk(value, text)
            for _ in range(25):
                desk.say("undo" if numbers.below(5) == 0 else drawn_line(numbers, desk.held, letters(value)))
            journal = desk.journal()
            held = copied(journal, {})
            again = replayed(value, text, numbers.one_of([journal, tuple(journal)]))
            self.assertEqual(journal, held)
            self.assertEqual(again.journal(), journal)
            self.assertEqual(told_by(again.held), told_by(desk.held))
            while desk.say("undo") == ["done"]:
                self.assertEqual(again.say("undo"), ["done"])
                self.assertEqual(again.held.letters(), desk.held.letters())
            self.assertEqual(again.say("undo"), ["nothing"])

    def test_lines_changed_and_left_out(self):
        numbers = Numbers(835)
        seen = {True: 0, False: 0}
        for value in all_programs():
            text = made_text(numbers, letters(value), 3)
            desk = Desk(value, text)
            for _ in range(12):
                desk.say(drawn_line(numbers, desk.held, letters(value)))
            journal = desk.journal()
            if not journal:
                continue
            for _ in range(6):
                at = numbers.below(len(journal))
                line = drawn_line(numbers, desk.held, letters(value))
                other = numbers.one_of([journal[:at] + journal[at + 1:], journal[:at] + [line] + journal[at + 1:], journal[:at] + [line] + journal[at:],
                                        journal[:at] + [journal[at]] + journal[at:], journal[:at] + ["undo"] + journal[at:]])
                beside = Held(value, text)
                good = all(words.split(" ")[0] in ("put", "take", "swap") and said_by_methods(beside, words.split(" ")) == ["done"] for words in other)
                seen[good] += 1
                if good:
                    self.assertEqual(replayed(value, text, other).held.letters(), beside.letters())
                else:
                    self.assertRaises(BadJournal, replayed, value, text, other)
        self.assertGreater(min(seen.values()), 20)

    def test_no_journals(self):
        wrong = [*[value for value in odd_values() if value not in ([], ())], ["text"], ["undo"], ["put 0 a", "undo"], ["put 3 a"], ["put 0 c"],
                 ["swap 2 a"], ["take 0 3"], ["put 0 a", "put 4 a"], ["put 0 a", None], ["put 0 a", 1], [["put 0 a"]], "put 0 a", ["put 0 a\n"],
                 ["put  0 a"], ["put 00 a"], ["put 0 a", "written"], [""], ["unknown"], ["cuts 0"], ["put 0 a", ("put 0 a",)], {"put 0 a": True},
                 ["put 0 a "], ["put 0 A"], ["put 1234567890 a"], ["take 0 2", "swap 0 a"], ["piece 0 0"], [True]]
        for value in wrong:
            self.assertRaises(BadJournal, replayed, TURNED, "ab", value)
            if type(value) is list:
                self.assertRaises(BadJournal, replayed, TURNED, "ab", tuple(value))

    def test_wrong(self):
        refused(self, replayed, {"program": TURNED, "text": "ab", "journal": ["put 0 a"]},
                [("program", BadProgram, [*BAD_PROGRAMS, great_program(31)]), ("text", BadText, BAD_TEXTS), ("journal", BadJournal, [["text"], None, [1]])])

    def test_desks_never_touch_each_other(self):
        one, other = Desk(TURNED, "ab"), Desk(TURNED, "ab")
        one.say("put 0 b")
        self.assertEqual((other.held.letters(), other.journal(), other.say("undo")), ("ab", [], ["nothing"]))
        again = replayed(TURNED, "ab", one.journal())
        again.say("undo")
        self.assertEqual((one.held.letters(), one.journal()), ("bab", ["put 0 b"]))
        self.assertNotEqual(one, other)
        self.assertEqual(one, one)
        self.assertRaises(TypeError, iter, one)
        self.assertEqual(Desk(THERE_AND_BACK).held.letters(), "")


if __name__ == "__main__":
    unittest.main()
