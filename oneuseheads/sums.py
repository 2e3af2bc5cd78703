"""Which rows of whole numbers are sums of multiples, by fractions, of the rows ahead of them."""

from math import gcd

# For each of these wholes e, 2 to the power e, less 1, is a prime.
EXPONENTS = (61, 127, 521, 1279, 2203, 4423, 9689, 19937, 44497, 110503, 216091, 756839, 1257787, 2976221)


def is_no_sum(reduced, numbers):
    """Whether numbers are no sum of multiples of the rows that were put into reduced; they are put into it then.

    For short rows of small numbers: all is done with wholes.
    """
    rest = list(numbers)
    for place, row in reduced:
        if rest[place] != 0:
            mine, its = row[place], rest[place]
            rest = _without_divisor([mine * number - its * other for number, other in zip(rest, row)])
    places = [place for place, number in enumerate(rest) if number != 0]
    if not places:
        return False
    reduced.append((places[0], rest))
    return True


def _without_divisor(numbers):
    common = 0
    for number in numbers:
        common = gcd(common, number)
    return [number // max(common, 1) for number in numbers]


def inverse_of(number, prime):
    """The whole that, times number, leaves 1 when it is divided by prime."""
    one, other = prime, number
    ones, others = 0, 1
    while other > 1:
        times = one // other
        one, other = other, one - times * other
        ones, others = others, ones - times * others
    return others % prime


def fraction_of(number, prime, bound):
    """A pair of a top and a bottom, both at most bound, such that number times bottom leaves what top leaves.

    None if there is none.
    """
    one, other = prime, number
    ones, others = 0, 1
    while other > bound:
        times = one // other
        one, other = other, one - times * other
        ones, others = others, ones - times * others
    if abs(others) > bound:
        return None
    return (other, others) if others > 0 else (-other, -others)


def _packed(numbers, digits):
    """One whole that holds all numbers, so many digits to the base 16 for each, the first one lowest."""
    return int("".join([f"{number:x}".zfill(digits) for number in reversed(numbers)]), 16)


def _unpacked(packed, digits):
    told = f"{packed:x}"
    return [int(told[max(0, end - digits):end], 16) for end in range(len(told), 0, -digits)]


class Span:
    """Rows none of which is a sum of multiples of the others.

    Wholes without bound would take too long. So rows are reduced by what they leave when they are divided by a prime:
    what is no sum by this is none at all. What is a sum by this is one if fractions that leave the same make it up
    exactly; if not, nothing is told, and a greater prime is needed.
    """

    def __init__(self, exponent, places):
        self._prime = (1 << exponent) - 1
        self._bound = (1 << (exponent // 2)) - 1
        # As many rows as can be may be added up, each times what is left, before anything is divided again.
        self._digits = (2 * exponent + 16) // 4 + 1
        self._wide = exponent
        self._places = places
        self._reduced = []
        self._rows = []

    def add(self, parts):
        """Whether a row is no sum of multiples of those added before, and so is added; None if the prime is too small.

        It is told by parts, pairs of the place at which a part begins and its numbers; between parts there are zeros.
        """
        greatest = max([max(numbers) for _, numbers in parts])
        if greatest.bit_length() > 4 * self._wide:
            return None
        row = (sum([_packed(numbers, self._wide) << (4 * self._wide * at) for at, numbers in parts]), greatest)
        # Behind its places each row tells of which rows it is the sum that it is.
        rest = 1 << (4 * self._digits * (self._places + len(self._rows)))
        for at, numbers in parts:
            left = [number % self._prime for number in numbers]
            rest += _packed(left, self._digits) << (4 * self._digits * at)
        rest = [number % self._prime for number in _unpacked(self._reduce(rest), self._digits)]
        for place in range(self._places):
            if rest[place] != 0:
                self._keep(place, rest)
                self._rows.append(row)
                return True
        return None if not self._is_made_up(row, rest[self._places:-1]) else False

    def _reduce(self, packed):
        mask = (1 << (4 * self._digits)) - 1
        rest = packed
        for place, row in self._reduced:
            number = ((rest >> (4 * self._digits * place)) & mask) % self._prime
            if number != 0:
                rest += (self._prime - number) * row
        return rest

    def _keep(self, place, rest):
        inverse = inverse_of(rest[place], self._prime)
        told = [number * inverse % self._prime for number in rest]
        self._reduced.append((place, _packed(told, self._digits)))

    def _is_made_up(self, row, against):
        """Whether the row is exactly made up of fractions of the others, against telling what they leave, negated."""
        tops = []
        common = 1
        for number, other in zip(against, self._rows):
            if number != 0:
                left = (self._prime - number) * common % self._prime
                found = self._whole_or_fraction(left)
                if found is None:
                    return False
                common *= found[1]
                tops.append((found[0], common, other))
        told = [(top * (common // bottom), other) for top, bottom, other in tops]
        most = common * row[1] + sum([abs(times) * other[1] for times, other in told])
        if most.bit_length() > 4 * self._wide:
            return False
        return common * row[0] == sum([times * other[0] for times, other in told])

    def _whole_or_fraction(self, left):
        if left <= self._bound:
            return left, 1
        if self._prime - left <= self._bound:
            return left - self._prime, 1
        return fraction_of(left, self._prime, self._bound)
