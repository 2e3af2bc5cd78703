"""Which rows of whole numbers are sums of multiples, by fractions, of the rows ahead of them."""

from math import gcd

# Prime, and half of what is one less is prime, too: so powers of small numbers, of which rows of numbers are made,
# leave the same only where their exponents are further apart than any that come up.
PRIME = 1152921504606843299
# How many digits to the base 16, and bits, hold the prime times the prime, added up 8000 times and more.
DIGITS = 34
BITS = 136


def is_no_sum(reduced, numbers):
    """Whether numbers are no sum of multiples of the rows that were put into reduced; they are put into it then.

    For short rows of small numbers: all is done with wholes.
    """
    rest = list(numbers)
    for place, row in reduced:
        if rest[place] != 0:
            mine, its = row[place], rest[place]
            rest = _without_divisor([mine * number - its * other for number, other in zip(rest, row)])
    places = [place for place, number in enumerate(rest) if number != 0]
    if not places:
        return False
    reduced.append((places[0], rest))
    return True


def _without_divisor(numbers):
    common = 0
    for number in numbers:
        common = gcd(common, number)
    return [number // max(common, 1) for number in numbers]


def _inverse_of(number):
    """The whole that, times number, leaves 1 when it is divided by the prime."""
    one, other = PRIME, number
    ones, others = 0, 1
    while other > 1:
        times = one // other
        one, other = other, one - times * other
        ones, others = others, ones - times * others
    return others % PRIME


def _packed(numbers):
    """One whole that holds all numbers, the first one lowest."""
    return int("".join([f"{number:x}".zfill(DIGITS) for number in reversed(numbers)]), 16)


def _unpacked(packed):
    told = f"{packed:x}"
    return [int(told[max(0, end - DIGITS):end], 16) for end in range(len(told), 0, -DIGITS)]


class Span:
    """Long rows none of which is a sum of multiples of the others, however great their numbers.

    Fractions would grow beyond all use, so all is done with what numbers leave when they are divided by the prime.
    That tells the same, but where the prime divides a number that has nothing to do with it and tells rows apart.
    """

    def __init__(self):
        self._reduced = []

    def add(self, parts):
        """Whether a row is no sum of multiples of those added before; if so, it is added.

        It is told by parts, pairs of the place at which a part begins and of what its numbers leave when they are
        divided by the prime; between parts there are zeros.
        """
        left = self._reduce(parts)
        places = [place for place, number in enumerate(left) if number != 0]
        if not places:
            return False
        # The highest place, for then the rows that hold least ahead of it are the shortest.
        place = places[-1]
        inverse = _inverse_of(left[place])
        self._reduced.append((place, _packed([number * inverse % PRIME for number in left[:place + 1]])))
        return True

    def _reduce(self, parts):
        """The list of what is left of the row, the rows that were added being taken away from it."""
        rest = 0
        for at, numbers in parts:
            rest += _packed(numbers) << (BITS * at)
        mask = (1 << BITS) - 1
        for place, row in self._reduced:
            number = ((rest >> (BITS * place)) & mask) % PRIME
            if number != 0:
                rest += (PRIME - number) * row
        return [number % PRIME for number in _unpacked(rest)]
