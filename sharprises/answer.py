"""An answer: what is said, yes or no, to each word of some bits."""

from sharprises.chances import Fraction, chances_by, how_fast, how_likely, is_chance, is_scale, least_reaching

NO_SUCH_BIT = -2
NOT_RIGHT = -22
NONE_THERE = -33

MOST_BITS = 5
MOST_TOLD = 32
MOST_FOR_A_BIT = 9
MOST_TRIES = 6


def bit_of(word, bit):
    """1 if the word has the bit, else 0."""
    return (word >> bit) & 1


def how_many_bits(word):
    """How many bits of the word are set."""
    return sum([bit_of(word, bit) for bit in range(MOST_BITS)])


def weight(word, numbers):
    """The numbers of the word's set bits, together."""
    return sum([number for bit, number in enumerate(numbers) if bit_of(word, bit) == 1])


def sizes_of(marks, bits):
    """How many of the words that are marked by 1 have so many bits set, from 0 on."""
    sizes = [0] * (bits + 1)
    for word, mark in enumerate(marks):
        size = how_many_bits(word)
        sizes[size] = sizes[size] + mark
    return sizes


class Answer:
    """Each method answers a list of numbers; a refusal is its number alone and changes nothing."""

    def __init__(self):
        self.bits = 0
        self.said = []

    def begun(self):
        """Whether a begin has answered 0."""
        return self.bits > 0

    def has_bit(self, bit):
        """Whether there is such a bit."""
        return bit < self.bits

    def has_word(self, word):
        """Whether there is such a word; sets of bits are told alike."""
        return word < len(self.said)

    def say(self, said):
        """Say this, 1 or 0 for each word, from now on; to how many it is yes."""
        self.said = said
        return [sum(said)]

    def turned(self, bit):
        """What is said to each word with this bit turned."""
        return [self.said[word ^ (1 << bit)] for word in range(len(self.said))]

    def swaying(self, bit):
        """1 for each word at which this bit sways, 0 for the others."""
        return [now ^ turned for now, turned in zip(self.said, self.turned(bit))]

    def yes_sizes(self):
        """To how many words with so many bits set it says yes, from 0 on."""
        return sizes_of(self.said, self.bits)

    def begin(self, bits):
        """So many bits, and no to all words."""
        if bits < 1 or bits > MOST_BITS:
            return [NOT_RIGHT]
        self.bits = bits
        return self.say([0] * (1 << bits))

    def told(self, words):
        """Yes to these words alone."""
        if len(words) > MOST_TOLD or not all([self.has_word(word) for word in words]):
            return [NOT_RIGHT]
        return self.say([1 if word in words else 0 for word in range(len(self.said))])

    def least(self, needed, numbers):
        """Yes to the words whose set bits' numbers are together as many as needed, or more."""
        if len(numbers) != self.bits or max(numbers) > MOST_FOR_A_BIT:
            return [NOT_RIGHT]
        return self.say([1 if weight(word, numbers) >= needed else 0 for word in range(len(self.said))])

    def odd(self, chosen):
        """Yes to the words that meet this set of bits in an odd number of them."""
        if not self.has_word(chosen):
            return [NOT_RIGHT]
        return self.say([how_many_bits(word & chosen) % 2 for word in range(len(self.said))])

    def bit(self, bit):
        """Yes to the words that have this bit."""
        if not self.has_bit(bit):
            return [NO_SUCH_BIT]
        return self.say([bit_of(word, bit) for word in range(len(self.said))])

    def negated(self):
        """Yes to the words to which it was no, alone."""
        return self.say([1 - yes for yes in self.said])

    def turn(self, bit):
        """To each word what was said to it with this bit turned."""
        if not self.has_bit(bit):
            return [NO_SUCH_BIT]
        return self.say(self.turned(bit))

    def set_word(self, word, yes):
        """To this word yes (1) or no (0), to the others as before."""
        if not self.has_word(word) or yes > 1:
            return [NOT_RIGHT]
        said = list(self.said)
        said[word] = yes
        return self.say(said)

    def ask(self, word):
        """1 if it says yes to this word, else 0."""
        if not self.has_word(word):
            return [NOT_RIGHT]
        return [self.said[word]]

    def mean(self):
        """0, then to which part of all words it says yes."""
        return [0] + Fraction(sum(self.said), len(self.said)).lowest_terms()

    def rising(self):
        """1 if a yes is never a no with one more bit set, else 0."""
        for word, yes in enumerate(self.said):
            for bit in range(self.bits):
                if self.said[word | (1 << bit)] < yes:
                    return [0]
        return [1]

    def sides(self):
        """How many twos of words differ by just one bit, and by what is said to them."""
        # Each two is met at both of its words.
        return [sum([sum(self.swaying(bit)) for bit in range(self.bits)]) // 2]

    def state(self):
        """How many bits; then all words to which it says yes, rising."""
        return [self.bits] + [word for word, yes in enumerate(self.said) if yes == 1]

    def yes(self, upper, lower):
        """0, then how likely yes is at this chance."""
        if not is_chance(upper, lower):
            return [NOT_RIGHT]
        return [0] + how_likely(self.yes_sizes(), Fraction(upper, lower)).lowest_terms()

    def swayat(self, bit, upper, lower):
        """0, then this bit's sway at this chance."""
        if not self.has_bit(bit):
            return [NO_SUCH_BIT]
        if not is_chance(upper, lower):
            return [NOT_RIGHT]
        sizes = sizes_of(self.swaying(bit), self.bits)
        return [0] + how_likely(sizes, Fraction(upper, lower)).lowest_terms()

    def slope(self, upper, lower):
        """0, then how fast it rises at this chance."""
        if not is_chance(upper, lower):
            return [NOT_RIGHT]
        return [0] + how_fast(self.yes_sizes(), Fraction(upper, lower)).lowest_terms()

    def sizes(self):
        """How many bits, and one; then to how many words with so many bits set it says yes, from 0 on."""
        return [self.bits + 1] + self.yes_sizes()

    def half(self, parts):
        """The least a by which, at a by so many parts, yes is as likely as 1 by 2, or more."""
        if not is_scale(parts):
            return [NOT_RIGHT]
        reached = least_reaching(self.yes_sizes(), Fraction(1, 2), parts)
        if reached is None:
            return [NONE_THERE]
        return [reached]

    def width(self, parts, start, end, lower):
        """How far the least a for end by lower is from the one for start by lower; then that one, then this."""
        if not is_scale(parts) or not is_chance(start, lower) or not is_chance(end, lower) or end < start:
            return [NOT_RIGHT]
        started = least_reaching(self.yes_sizes(), Fraction(start, lower), parts)
        ended = least_reaching(self.yes_sizes(), Fraction(end, lower), parts)
        if started is None or ended is None:
            return [NONE_THERE]
        return [ended - started, started, ended]

    def tries(self, upper, lower, times):
        """0, then how likely yes is with each bit tried so often; then how likely once, if all is set anew so often."""
        if not is_chance(upper, lower) or times < 1 or times > MOST_TRIES:
            return [NOT_RIGHT]
        sizes = self.yes_sizes()
        chance = Fraction(upper, lower)
        each = how_likely(sizes, chance.once_in(times))
        anew = how_likely(sizes, chance).once_in(times)
        return [0] + each.lowest_terms() + anew.lowest_terms()

    def steepest(self, parts):
        """The first a by which, at a by so many parts, it rises fastest; then how fast."""
        if not is_scale(parts):
            return [NOT_RIGHT]
        slopes = [how_fast(self.yes_sizes(), chance) for chance in chances_by(parts)]
        first = 0
        for upper, slope in enumerate(slopes):
            if slopes[first].is_less(slope):
                first = upper
        return [first] + slopes[first].lowest_terms()

    def fixed(self, parts):
        """How many a there are by which, at a by so many parts, yes is just as likely as that; then these, rising."""
        if not is_scale(parts):
            return [NOT_RIGHT]
        sizes = self.yes_sizes()
        found = [upper for upper, chance in enumerate(chances_by(parts)) if how_likely(sizes, chance).is_like(chance)]
        return [len(found)] + found
