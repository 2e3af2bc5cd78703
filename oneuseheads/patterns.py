"""Patterns of kinds, and how what a bare term asks of kinds is found: helps finding."""

from oneuseheads.kinds import TEXT
from oneuseheads.plain import is_whole

MOST_PATTERN = 400


def is_right_pattern(value):
    """Whether value is a pattern."""
    ends = 0
    unlike = 0
    pending = [value]
    while pending:
        part = pending.pop()
        if not isinstance(part, tuple):
            return False
        if len(part) == 2 and part[0] == "any":
            if not is_whole(part[1]) or not 0 <= part[1] <= unlike:
                return False
            unlike = max(unlike, part[1] + 1)
            ends += 1
        elif len(part) == 3 and part[0] == "to":
            pending.append(part[2])
            pending.append(part[1])
        else:
            return False
        # What is pending has an end each, so values that share parts do not take long.
        if ends + len(pending) > MOST_PATTERN:
            return False
    return True


def signed_ends(pattern):
    """The list of pairs, from left to right, of whether an end of a pattern is asked, and of its n."""
    found = []
    pending = [(True, pattern)]
    while pending:
        asked, part = pending.pop()
        if part[0] == "any":
            found.append((asked, part[1]))
        else:
            pending.append((asked, part[2]))
            pending.append((not asked, part[1]))
    return found


def last_end(pattern):
    """The list of the patterns of what a thing of this pattern is handed, and the n with which it ends."""
    handed = []
    rest = pattern
    while rest[0] == "to":
        handed.append(rest[1])
        rest = rest[2]
    return handed, rest[1]


class Asked:
    """What is asked of kinds, each known by its number: it is open, a text, a function, or the same as another one."""

    def __init__(self):
        self._told = []

    def opened(self):
        """The number of a kind of which nothing is asked."""
        self._told.append(("open",))
        return len(self._told) - 1

    def function(self, handed, result):
        """The number of the kind of functions from one kind to another."""
        self._told.append(("to", handed, result))
        return len(self._told) - 1

    def known(self, kind):
        """The number of what is this kind."""
        if kind != TEXT:
            return self.function(self.known(kind[1]), self.known(kind[2]))
        self._told.append(TEXT)
        return len(self._told) - 1

    def _own(self, number):
        here = number
        while self._told[here][0] == "same":
            here = self._told[here][1]
        return here

    def make_same(self, one, other):
        """Asks that both kinds are the same; it must be known that they can be."""
        pending = [(one, other)]
        while pending:
            first, second = pending.pop()
            first, second = self._own(first), self._own(second)
            if first != second:
                ones, others = self._told[first], self._told[second]
                if others[0] == "open":
                    self._told[second] = ("same", first)
                else:
                    self._told[first] = ("same", second)
                    if ones[0] == "to":
                        pending.extend([(ones[1], others[1]), (ones[2], others[2])])

    def pattern(self, number):
        """The pattern of a kind."""
        names = {}
        made = []
        pending = [number]
        while pending:
            here = pending.pop()
            if here is None:
                result = made.pop()
                made.append(("to", made.pop(), result))
            else:
                own = self._own(here)
                if self._told[own][0] == "to":
                    pending.extend([None, self._told[own][2], self._told[own][1]])
                else:
                    made.append(("any", names.setdefault(own, len(names))))
        return made[0]

    def count_ends(self, number):
        """How many ends a kind has; what is open is counted as a text."""
        counted = {}
        pending = [number]
        while pending:
            own = self._own(pending.pop())
            told = self._told[own]
            if told[0] != "to":
                counted[own] = 1
            elif own not in counted:
                inner = [self._own(told[1]), self._own(told[2])]
                missing = [part for part in inner if part not in counted]
                if missing:
                    pending.extend([own, *missing])
                else:
                    counted[own] = counted[inner[0]] + counted[inner[1]]
        return counted[self._own(number)]

    def kind(self, number):
        """The kind, with texts for all that is open; it must be a small one."""
        told = self._told[self._own(number)]
        if told[0] != "to":
            return TEXT
        return ("to", self.kind(told[1]), self.kind(told[2]))
