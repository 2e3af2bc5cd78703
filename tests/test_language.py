"""The interface, and those rules of the language that can be checked with little."""

import ast
import builtins
import inspect
import os
import unittest
from functools import cache
from importlib import import_module

FOLDER = os.path.join(os.path.dirname(os.path.dirname(os.path.abspath(__file__))), "oneuseheads")
INTERFACE = {
    "kinds": ["is_kind(value)", "arguments(kind)", "kind_from(arguments)", "ends_in(kind)", "order(kind)"],
    "terms": ["is_text(value)", "is_letter(value)", "is_name(value)", "is_term(value)", "is_closed(value)",
              "kind_of(term, names=())", "free_names(term)", "paths(term)", "part_at(term, path)",
              "with_part(term, path, part)", "renamed(term, path, name)", "same_but_names(one, other)"],
    "reducing": ["doable(term)", "done(term, path)", "normal(term)", "are_orders(term, path_list)", "fewest(term)",
                 "most(term)", "drops(term)"],
    "ends": ["signs(kind)", "parts(kind)", "keeper(kind, end)"],
    "tables": ["is_table(kind, value)", "read_back(kind, table)", "table(term)", "called(kind, table, argument)",
               "own_table(kind)", "through(kind, one, other)", "bare_tables(kind)"],
    "programs": ["is_program(value)", "letters(program)", "term_of(program, text)"],
    "walks": ["run(program, text)", "walk(program, text)", "crossed(program, text, boundary)", "stretch(program, text)",
              "Token(program, text)"],
    "heads": ["is_head(value)", "head_of(program)", "led(head, text)", "program_of(head)"],
    "alike": ["left_links(program, text)", "first_unlike(one, other)", "alike(one, other)", "origins(program, text)"],
    "languages": ["is_machine(value)", "lets(machine, text)", "led_on(machine, text)", "least_machine(machine)",
                  "contrary(machine)", "combined(word, one, other)", "first_text(machine)", "texts_of_length(machine, length)"],
    "boxes": ["is_boxes(value)", "box_contents(boxes, text)", "box_text(boxes, text)", "boxed(program)"],
    "joining": ["behind(first, second)", "turned_in(program)", "turned_out(program)", "both(one, other)",
                "relettered(program, words)", "read_as(program, words)"],
    "alltexts": ["row_basis(one, other)", "first_apart(one, other)", "writes_same(one, other)"],
    "bare": ["is_bare(value)", "bared(term)", "bare_normal(bare)"],
    "counting": ["counts(program, text)", "counts_parted(one, other)", "counts_alike(one, other)"],
    "bounds": ["least_written(program, letter)", "most_written(program, letter)", "text_with(program, letter, many)",
               "never_written(program)", "always_written(program)", "bounded_letters(program)"],
    "held": ["Held(program, text)"],
    "desk": ["Desk(program, text='')", "replayed(program, text, journal)"],
    "finding": ["is_pattern(value)", "filled(pattern, kinds)", "fits(pattern, kind)", "principal(bare)", "dressed(bare, kind)",
                "told_by(pattern)", "links_of(pattern)"],
    "shapes": ["shape_of(kind, table)", "is_shape(kind, value)", "plain_shape(kind)", "joined(kind, one, other)",
               "stretch_shape(program, text)", "shapes(program)", "powers(program, text)", "turned_round(program)",
               "groups(program)"],
    "growth": ["longest(program, many)", "shortest(program, many)", "most_crossed(program, many)", "greatest_rate(program)",
               "least_rate(program)"],
    "images": ["writes_into(program, machine)", "leads(program, one, other)"],
    "order": ["is_ordered(term)", "is_ordered_program(program)", "line(kind)", "crossing(kind, table)"],
    "parting": ["is_surroundings(kind, value)", "put_in(kind, surroundings, term)", "written_in(kind, surroundings, term)",
                "parted(kind, one, other)"],
    "signs": ["sign(program, text, which)", "sign_machine(program, which)", "turning(program, which)",
              "is_turning(program, which, value)"],
    "wording": ["worded(term)", "program_worded(program)", "read(wording, names=(), kind=None)",
                "completed(wording, names=(), kind=None)", "offers(wording, names=(), kind=None)", "read_program(wording)"],
}
METHODS = {
    ("walks", "Token"): ["is_over(self)", "step(self)", "back(self)", "written(self)", "crossings(self)"],
    ("held", "Held"): ["letters(self)", "length(self)", "size(self)", "made(self)", "put_in(self, at, more)",
                       "take_out(self, at, many)", "exchange(self, at, letter)", "copy(self)", "written(self)",
                       "piece(self, begin, end)", "origin(self, spot)", "spots(self, place)", "unread(self)",
                       "cuts(self, at)", "ahead(self, at)", "behind(self, at)"],
    ("desk", "Desk"): ["journal(self)", "say(self, line)"],
}
SIZED = (ast.FunctionDef, ast.ClassDef)
LIBRARY = {"math": ["gcd", "lcm", "isqrt"], "itertools": ["product", "combinations", "permutations"]}


def files():
    return sorted(os.listdir(FOLDER))


def read(name):
    with open(os.path.join(FOLDER, name), encoding="utf-8", newline="") as file:
        return file.read()


@cache
def trees():
    return [(name, ast.parse(read(name))) for name in files() if name.endswith(".py")]


class Interface(unittest.TestCase):
    def test_functions_and_classes(self):
        for module, told in INTERFACE.items():
            loaded = import_module("oneuseheads." + module)
            for line in told:
                name = line.partition("(")[0]
                self.assertEqual(name + str(inspect.signature(getattr(loaded, name))), line)
                self.assertEqual(getattr(loaded, name).__module__, "oneuseheads." + module)

    def test_methods(self):
        for (module, name), told in METHODS.items():
            own = vars(getattr(import_module("oneuseheads." + module), name))
            for line in told:
                method = line.partition("(")[0]
                self.assertEqual(method + str(inspect.signature(own[method])), line)


class Language(unittest.TestCase):
    def test_files(self):
        for name in files():
            if name == "__pycache__":
                continue
            self.assertTrue(name.endswith(".py") and name == name.lower(), name)
            text = read(name)
            lines = text.split("\n")
            self.assertLessEqual(len(lines) - 1, 399, name)
            self.assertEqual(lines[-1], "", name)
            for number, line in enumerate(lines, start=1):
                self.assertLessEqual(len(line), 120, (name, number))
                self.assertTrue(all(" " <= sign <= "~" for sign in line), (name, number))

    def test_functions_are_short_and_without_decorators(self):
        for name, tree in trees():
            for node in ast.walk(tree):
                if isinstance(node, ast.FunctionDef):
                    self.assertLessEqual(node.end_lineno - node.lineno + 1, 40, (name, node.name))
                    self.assertEqual(node.decorator_list, [], (name, node.name))

    def test_imports(self):
        for name, tree in trees():
            for node in ast.walk(tree):
                self.assertNotIsInstance(node, ast.Import, name)
                if isinstance(node, ast.ImportFrom) and node.module in LIBRARY:
                    self.assertIn(node, tree.body, name)
                    told = [alias.name for alias in node.names if alias.asname is None]
                    self.assertEqual([one for one in told if one not in LIBRARY[node.module]], [], name)
                    self.assertEqual(len(told), len(node.names), name)
                elif isinstance(node, ast.ImportFrom):
                    self.assertTrue(node in tree.body and node.module.startswith("oneuseheads."), (name, node.module))
                    defined = {told for told in self.bound_above(dict(trees())[node.module.partition(".")[2] + ".py"])}
                    self.assertTrue(all(alias.name in defined and alias.asname is None for alias in node.names), name)

    def bound_above(self, tree):
        for node in tree.body:
            if isinstance(node, SIZED):
                yield node.name
            elif isinstance(node, ast.Assign):
                yield from [target.id for target in node.targets]

    def test_no_name_is_bound_twice_or_hides_another(self):
        for name, tree in trees():
            imported = [alias.name for node in tree.body if isinstance(node, ast.ImportFrom) for alias in node.names]
            above = imported + list(self.bound_above(tree))
            self.assertEqual(len(above), len(set(above)), name)
            classes = [node.name for node in tree.body if isinstance(node, ast.ClassDef)]
            hidden = set(imported) | set(classes) | set(dir(builtins))
            for node in ast.walk(tree):
                if isinstance(node, ast.arg):
                    self.assertNotIn(node.arg, hidden, name)
                elif isinstance(node, ast.Name) and isinstance(node.ctx, ast.Store):
                    self.assertNotIn(node.id, hidden, name)
                elif isinstance(node, ast.FunctionDef) and node in tree.body:
                    self.assertNotIn(node.name, dir(builtins), name)
            used = {node.id for node in ast.walk(tree) if isinstance(node, ast.Name)}
            self.assertEqual([told for told in imported if told not in used], [], name)

    def test_no_state_outside_functions(self):
        for name, tree in trees():
            for node in tree.body[1:]:
                self.assertIsInstance(node, (ast.ImportFrom, ast.Assign, *SIZED), name)
            self.assertIsNotNone(ast.get_docstring(tree), name)
            for node in ast.walk(tree):
                self.assertNotIsInstance(node, (ast.Global, ast.Div, ast.SetComp, ast.Set, ast.AnnAssign), name)


if __name__ == "__main__":
    unittest.main()
