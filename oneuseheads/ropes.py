"""Ropes: texts as balanced trees that keep, for each stretch in them, its table.

A rope is a Leaf, for one letter, or a Knot, for what stands left and right in it; None is the rope of the empty text.
Ropes are never changed, so several texts may share their parts.
"""

from oneuseheads.kinds import TEXT, count_ends
from oneuseheads.tables import call_table, put_through


class Leaf:
    """The rope of one letter."""

    def __init__(self, links):
        self.links = links
        self.many = 1
        self.height = 0


class Knot:
    """The rope of the letters of two ropes: many of them, with this table, in a tree of this height."""

    def __init__(self, left, right, links):
        self.left = left
        self.right = right
        self.links = links
        self.many = left.many + right.many
        self.height = 1 + max(left.height, right.height)


class Roper:
    """Makes the ropes of a head, and counts the tables that are made, those of the head among them.

    The head's kind has many ends.
    """

    def __init__(self, head):
        _, self._kind, self._init, steps, self._last = head
        self._leaves = {letter: Leaf(links) for letter, links in steps}
        self.many = count_ends(self._kind)
        self.tables_made = len(steps) + 2

    def rope_of(self, text):
        """The rope of a text."""
        if len(text) < 2:
            return self._leaves[text] if text else None
        middle = len(text) // 2
        return self._knot(self.rope_of(text[:middle]), self.rope_of(text[middle:]))

    def _knot(self, left, right):
        self.tables_made += 1
        return Knot(left, right, put_through(self._kind, self._kind, left.links, right.links))

    def joined(self, left, right):
        """The rope of the letters of left and behind them those of right."""
        if left is None or right is None:
            return left if right is None else right
        if left.height > right.height + 1:
            return self._balanced(left.left, self.joined(left.right, right))
        if right.height > left.height + 1:
            return self._balanced(self.joined(left, right.left), right.right)
        return self._knot(left, right)

    def _balanced(self, left, right):
        """As joined, for ropes whose heights are at most 2 apart."""
        if left.height > right.height + 1:
            if left.left.height >= left.right.height:
                return self._knot(left.left, self._knot(left.right, right))
            outer = self._knot(left.left, left.right.left)
            return self._knot(outer, self._knot(left.right.right, right))
        if right.height > left.height + 1:
            if right.right.height >= right.left.height:
                return self._knot(self._knot(left, right.left), right.right)
            inner = self._knot(left, right.left.left)
            return self._knot(inner, self._knot(right.left.right, right.right))
        return self._knot(left, right)

    def cut(self, rope, at):
        """The ropes of the first at letters and of the others."""
        if rope is None or at == rope.many:
            return rope, None
        if at == 0:
            return None, rope
        if at < rope.left.many:
            ahead, between = self.cut(rope.left, at)
            return ahead, self.joined(between, rope.right)
        between, behind = self.cut(rope.right, at - rope.left.many)
        return self.joined(rope.left, between), behind

    def exchanged(self, rope, at, letter):
        """The rope with this letter in the place of the one behind the first at ones."""
        if rope.many == 1:
            return self._leaves[letter]
        if at < rope.left.many:
            return self._knot(self.exchanged(rope.left, at, letter), rope.right)
        return self._knot(rope.left, self.exchanged(rope.right, at - rope.left.many, letter))

    def ahead(self, rope, at):
        """The table of the last term called with what the first at letters make of what it is handed."""
        found = self._last
        for part in _parts_ahead(rope, at):
            self.tables_made += 1
            found = put_through(self._kind, TEXT, found, part.links)
        return found

    def behind(self, rope, at):
        """The table of what the letters behind the first at ones make of init."""
        found = self._init
        for part in reversed(_parts_behind(rope, at)):
            self.tables_made += 1
            found = call_table(("to", self._kind, self._kind), part.links, found)
        return found

    def written(self, rope):
        """What is written on the whole text."""
        self.tables_made += 1
        links = call_table(("to", self._kind, TEXT), self._last, self.behind(rope, 0))
        return links[0][1]


def _parts_ahead(rope, at):
    """Few ropes in whose letters, one rope behind another, the first at letters are cut."""
    found = []
    here = rope
    left = at
    while left > 0:
        if left == here.many:
            found.append(here)
            left = 0
        elif left < here.left.many:
            here = here.left
        else:
            found.append(here.left)
            left -= here.left.many
            here = here.right
    return found


def _parts_behind(rope, at):
    """Likewise for the letters behind the first at ones."""
    found = []
    here = rope
    left = 0 if rope is None else rope.many - at
    while left > 0:
        if left == here.many:
            found.append(here)
            left = 0
        elif left < here.right.many:
            here = here.right
        else:
            found.append(here.right)
            left -= here.right.many
            here = here.left
    return found[::-1]
