"""What long rows of numbers leave when they are divided by a prime, and which of them are sums of others then."""

from math import lcm

# Prime, and half of what is one less is prime, too: so powers of small numbers, of which rows of numbers are made,
# leave the same only where their exponents are further apart than any that come up.
PRIME = 1152921504606843299
# How many digits to the base 16, and bits, hold the prime times the prime, added up 8000 times and more.
DIGITS = 34
BITS = 136
# A fraction is told from what it leaves only if it is as small as hardly any other number can be by chance.
MOST_PART = 1048576


def inverse_of(number):
    """The whole that, times number, leaves 1 when it is divided by the prime."""
    one, other = PRIME, number
    ones, others = 0, 1
    while other > 1:
        times = one // other
        one, other = other, one - times * other
        ones, others = others, ones - times * others
    return others % PRIME


def packed(numbers):
    """One whole that holds what all numbers leave, the first one lowest."""
    left = [number % PRIME for number in reversed(numbers)]
    return int("0" + "".join([f"{number:x}".zfill(DIGITS) for number in left]), 16)


def unpacked(whole, many):
    """The list of what the many numbers in a whole leave."""
    told = f"{whole:x}".zfill(DIGITS * many)
    return [int(told[end - DIGITS:end], 16) % PRIME for end in range(len(told), len(told) - DIGITS * many, -DIGITS)]


def fraction_of(left, power, most):
    """The fraction, as a pair of wholes of at most so much, that leaves this by a power; None if there is none."""
    one, other = power, left
    ones, others = 0, 1
    while other > most:
        times = one // other
        one, other = other, one - times * other
        ones, others = others, ones - times * others
    if abs(others) > most:
        return None
    return (other, others) if others > 0 else (-other, -others)


class Wholes:
    """Rows of many wholes, however great, each packed into one whole, so that all its numbers are led on at once.

    A number below 0 borrows from the one above it; it is given back when the numbers are told.
    """

    def __init__(self, many):
        self.rows = []
        self._many = many
        self._packed = []
        self._digits = 16

    def add(self, row):
        """Puts a row to the others."""
        self.rows.append(row)
        self._packed.append(self.pack(row))

    def make_room(self, bits):
        """Makes room in each number for so many bits, and for the sign."""
        if 4 * self._digits <= bits:
            self._digits = bits * 5 // 16 + 2
            self._packed = [self.pack(row) for row in self.rows]

    def _borrowed(self):
        """How much more than 0 each number is told as, and all of these packed."""
        return 1 << (4 * self._digits - 1), int(("8" + "0" * (self._digits - 1)) * self._many, 16)

    def pack(self, row):
        """One whole that holds the numbers in row."""
        more, all_more = self._borrowed()
        return int("".join([f"{number + more:x}".zfill(self._digits) for number in reversed(row)]), 16) - all_more

    def unpack(self, whole):
        """The list of the numbers that a whole holds."""
        more, all_more = self._borrowed()
        told = f"{whole + all_more:x}".zfill(self._digits * self._many)
        return [int(told[end - self._digits:end], 16) - more for end in range(len(told), 0, -self._digits)]

    def without(self, whole, times):
        """The whole that comes if the rows are taken away so often each; the sums of products must have room."""
        come = whole
        for number, row in zip(times, self._packed):
            if number != 0:
                come -= number * row
        return come


class Reduced:
    """Rows of many numbers that are no sums of one another, by what they leave when they are divided by the prime."""

    def __init__(self, many):
        self._many = many
        self._rows = []
        self._makings = []

    def reduce(self, numbers):
        """What is left of numbers if the rows are taken away from them, and how often each of them was."""
        rest = packed(numbers)
        mask = (1 << BITS) - 1
        times = []
        for place, row in self._rows:
            number = ((rest >> (BITS * place)) & mask) % PRIME
            times.append(number)
            if number != 0:
                rest += (PRIME - number) * row
        return unpacked(rest, self._many), times

    def add_left(self, left, times):
        """Adds the row of which left is left, and not nothing."""
        # The highest place, for then the rows that hold least ahead of it are the shortest.
        place = max([at for at, number in enumerate(left) if number != 0])
        inverse = inverse_of(left[place])
        self._rows.append((place, packed([number * inverse for number in left[:place + 1]])))
        making = [-number for number in self.multiples(times)]
        self._makings.append(packed([number * inverse for number in [*making, 1]]))

    def multiples(self, times):
        """How often each of the rows that were added goes into what was taken away so often."""
        come = 0
        for number, making in zip(times, self._makings):
            come += number * making
        return unpacked(come, len(self._makings))

    def rules(self):
        """What holds of all sums of multiples of the rows: a list of triples (place, divisor, parts).

        The number at the place times the divisor is the sum of the numbers at other places times wholes; parts are
        the pairs of those wholes and places. None if these wholes cannot be told.
        """
        columns = self._last_first()
        found = []
        places = [place for place, _ in self._rows]
        for place in range(self._many):
            if place not in places:
                rule = _rule(place, [(row[place], other) for other, row in columns])
                if rule is None:
                    return None
                found.append(rule)
        return found

    def _last_first(self):
        """The pairs of the place of each row and the row without what the others tell of their places."""
        done = []
        for place, row in reversed(self._rows):
            rest = row
            numbers = unpacked(row, self._many)
            for other, come in done:
                if numbers[other] != 0:
                    rest += (PRIME - numbers[other]) * come
            done.append((place, packed(unpacked(rest, self._many))))
        return [(place, unpacked(row, self._many)) for place, row in done]


def _rule(place, lefts):
    """The rule for a place, lefts telling what is left of the whole for each other place."""
    divisor = 1
    parts = []
    for left, other in lefts:
        if left != 0:
            fraction = fraction_of(left, PRIME, MOST_PART)
            if fraction is None:
                return None
            parts.append((fraction, other))
            divisor = lcm(divisor, fraction[1])
    return place, divisor, [(up * (divisor // down), other) for (up, down), other in parts]
