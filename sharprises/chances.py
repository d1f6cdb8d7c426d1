"""Chances as exact fractions; how likely yes is by one chance for all bits, and how fast that rises."""

MOST_PARTS = 100


def power(base, exponent):
    """The base to the power of the exponent; to the power of 0 anything is 1."""
    product = 1
    for factor in range(exponent):
        product = product * base
    return product


def is_scale(parts):
    """Whether chances can be told by so many parts."""
    return parts >= 1 and parts <= MOST_PARTS


def is_chance(upper, lower):
    """Whether the two numbers are those of a chance."""
    return is_scale(lower) and upper <= lower


class Fraction:
    """An upper number, which may be below 0, over a lower one, which is 1 or more."""

    def __init__(self, upper, lower):
        self.upper = upper
        self.lower = lower

    def lowest_terms(self):
        """Its two numbers, with nothing in common."""
        common = self.lower
        rest = self.upper % self.lower
        while rest > 0:
            behind = common % rest
            common = rest
            rest = behind
        return [self.upper // common, self.lower // common]

    def is_less(self, other):
        """Whether it's less than the other one."""
        return self.upper * other.lower < other.upper * self.lower

    def is_like(self, other):
        """Whether it's as much as the other one."""
        return self.upper * other.lower == other.upper * self.lower

    def once_in(self, times):
        """How likely it comes once, at least, in so many times, if it's how likely it comes in one."""
        whole = power(self.lower, times)
        never = power(self.lower - self.upper, times)
        return Fraction(whole - never, whole)


def chances_by(parts):
    """All chances told by so many parts, from 0 to 1."""
    return [Fraction(upper, parts) for upper in range(parts + 1)]


def upper_of_bits(chance, bits_set, others):
    """How likely it is that so many bits are set and the others aren't: the upper number of that."""
    return power(chance.upper, bits_set) * power(chance.lower - chance.upper, others)


def how_likely(sizes, chance):
    """How likely the words are, together, of which there are so many with each number of set bits, from 0 on."""
    bits = len(sizes) - 1
    upper = 0
    for size, many in enumerate(sizes):
        upper = upper + many * upper_of_bits(chance, size, bits - size)
    return Fraction(upper, power(chance.lower, bits))


def how_fast(sizes, chance):
    """How fast that rises as the chance grows: its derivative."""
    bits = len(sizes) - 1
    upper = 0
    for size, many in enumerate(sizes):
        # What's times 0 isn't there: it would ask for a power below 0.
        if size > 0:
            upper = upper + many * size * upper_of_bits(chance, size - 1, bits - size)
        if size < bits:
            upper = upper - many * (bits - size) * upper_of_bits(chance, size, bits - size - 1)
    return Fraction(upper, power(chance.lower, bits - 1))


def least_reaching(sizes, level, parts):
    """The least a by which, at a by so many parts, they are as likely as the level, or more; None if there's none."""
    for upper, chance in enumerate(chances_by(parts)):
        if not how_likely(sizes, chance).is_less(level):
            return upper
    return None
