"""Which rows of whole numbers are sums of multiples, by fractions, of the rows ahead of them."""

from math import gcd, isqrt

from oneuseheads.residues import PRIME, Reduced, Wholes, fraction_of


def is_no_sum(reduced, numbers):
    """Whether numbers are no sum of multiples of the rows that were put into reduced; they are put into it then.

    For short rows of small numbers: all is done with wholes.
    """
    rest = list(numbers)
    for place, row in reduced:
        if rest[place] != 0:
            mine, its = row[place], rest[place]
            rest = _without_divisor([mine * number - its * other for number, other in zip(rest, row)])
    places = [place for place, number in enumerate(rest) if number != 0]
    if not places:
        return False
    reduced.append((places[0], rest))
    return True


def _without_divisor(numbers):
    common = 0
    for number in numbers:
        common = gcd(common, number)
    return [number // max(common, 1) for number in numbers]


class Span:
    """Long rows none of which is a sum of multiples, by fractions, of the others, however great their numbers.

    What numbers leave when they are divided by the prime tells at once that a row is no sum. Where it does not, the
    sum that it tells is taken away, and what remains is divided by the prime, again and again: it comes to nothing,
    or the sum is told in full, if there is one; otherwise the prime tells in the end that what remains is no sum.
    """

    def __init__(self, many):
        self._many = many
        self._wholes = Wholes(many)
        self._reduced = Reduced(many)
        # How many bits hold the greatest number of all, and any sum of products of numbers of unlike rows.
        self._most_bits = 0
        self._all_bits = 0
        self._rules = None
        self._rounds = 0
        self._patience = 4

    def add(self, row):
        """Whether a row, a list of many wholes, is no sum of multiples of those added before; if so, it is added."""
        if len(self._wholes.rows) == self._many or self._rules is not None and _keeps(row, self._rules):
            return False
        left, times = self._reduced.reduce(row)
        come = row
        if not any(left):
            come = self._remainder(row, times)
            if come is None:
                return False
            left, times = self._reduced.reduce(come)
        self._reduced.add_left(left, times)
        # With what remains of a row in its place, the rows make the same sums, and the prime still tells them apart.
        self._most_bits = max(self._most_bits, _bits_of(come))
        self._all_bits += _bits_of(come) + self._many.bit_length()
        self._wholes.make_room(self._most_bits)
        self._wholes.add(come)
        self._rules = None
        return True

    def _remainder(self, row, times):
        """What remains of a row that is no sum, as far as the prime tells that; None if it is one.

        times are those that the prime tells.
        """
        self._wholes.make_room(max(self._most_bits, _bits_of(row)) + 2 * PRIME.bit_length() + self._many.bit_length())
        most = self._all_bits + _bits_of(row) + self._many.bit_length()
        told = [0] * len(self._wholes.rows)
        power = 1
        whole = self._wholes.pack(row)
        left = []
        rounds = 0
        told_at = 1
        while not any(left):
            digits = self._digits(times)
            told = [number + power * digit for number, digit in zip(told, digits)]
            power *= PRIME
            rounds += 1
            whole = self._wholes.without(whole, digits) // PRIME
            # No number that tells rows apart, a sum of products of theirs, is a multiple of so great a power.
            if whole == 0 or power.bit_length() > most + 1:
                return None
            rest = self._wholes.unpack(whole)
            if rounds == told_at:
                told_at += 1 + rounds // 8
                if self._is_told(rest, told, power):
                    return None
            if self._finds_rules() and _keeps(row, self._rules):
                return None
            left, times = self._reduced.reduce(rest)
        return rest

    def _digits(self, times):
        """How often each row goes into what the prime tells: of the wholes that leave this those nearest to 0."""
        return [number - PRIME if 2 * number > PRIME else number for number in self._reduced.multiples(times)]

    def _is_told(self, rest, told, power):
        """Whether what remains shows that a row is the sum of fractions of rows that they leave by a power as told."""
        # So small that hardly any number leaves such a fraction by chance.
        most = isqrt(power) >> 10
        divisor = 1
        for number in told:
            fraction = fraction_of(number * divisor % power, power, most)
            if fraction is None or fraction[1] * divisor > most:
                return False
            divisor *= fraction[1]
        # The row is the told sum and power times what remains; the divisor makes wholes of the fractions.
        times = [(2 * number * divisor + power) // (2 * power) for number in told]
        if divisor.bit_length() <= PRIME.bit_length():
            return self._wholes.without(self._wholes.pack(rest) * divisor, [-number for number in times]) == 0
        come = [number * divisor for number in rest]
        for number, row in zip(times, self._wholes.rows):
            if number != 0:
                come = [mine + number * its for mine, its in zip(come, row)]
        return not any(come)

    def _finds_rules(self):
        """Whether there are rules for all rows; they are looked for where much has been done without them."""
        self._rounds += 1
        if self._rules is None and self._rounds > self._patience + len(self._wholes.rows) // 8:
            self._rounds = 0
            rules = self._reduced.rules()
            if rules is None or not all([_keeps(row, rules) for row in self._wholes.rows]):
                self._patience *= 4
            else:
                self._rules = rules
        return self._rules is not None


def _bits_of(row):
    return max([number.bit_length() for number in row])


def _keeps(row, rules):
    for place, divisor, parts in rules:
        if row[place] * divisor != sum([number * row[other] for number, other in parts]):
            return False
    return True
