"""An answer: what is said, yes or no, to each word of some bits."""

NO_SUCH_BIT = -2
NOT_RIGHT = -22

MOST_BITS = 5
MOST_TOLD = 32
MOST_FOR_A_BIT = 9


def bit_of(word, bit):
    """1 if the word has the bit, else 0."""
    return (word >> bit) & 1


def how_many_bits(word):
    """How many bits of the word are set."""
    return sum([bit_of(word, bit) for bit in range(MOST_BITS)])


def weight(word, numbers):
    """The numbers of the word's set bits, together."""
    return sum([number for bit, number in enumerate(numbers) if bit_of(word, bit) == 1])


def lowest_terms(upper, lower):
    """The fraction's two numbers, with nothing in common."""
    common = lower
    rest = upper % lower
    while rest > 0:
        behind = common % rest
        common = rest
        rest = behind
    return [upper // common, lower // common]


class Answer:
    """Each method answers a list of numbers; a refusal is its number alone and changes nothing."""

    def __init__(self):
        self.bits = 0
        self.said = []

    def begun(self):
        """Whether a begin has answered 0."""
        return self.bits > 0

    def has_bit(self, bit):
        """Whether there is such a bit."""
        return bit < self.bits

    def has_word(self, word):
        """Whether there is such a word; sets of bits are told alike."""
        return word < len(self.said)

    def say(self, said):
        """Say this, 1 or 0 for each word, from now on; to how many it is yes."""
        self.said = said
        return [sum(said)]

    def begin(self, bits):
        """So many bits, and no to all words."""
        if bits < 1 or bits > MOST_BITS:
            return [NOT_RIGHT]
        self.bits = bits
        return self.say([0] * (1 << bits))

    def told(self, words):
        """Yes to these words alone."""
        if len(words) > MOST_TOLD or not all([self.has_word(word) for word in words]):
            return [NOT_RIGHT]
        return self.say([1 if word in words else 0 for word in range(len(self.said))])

    def least(self, needed, numbers):
        """Yes to the words whose set bits' numbers are together as many as needed, or more."""
        if len(numbers) != self.bits or max(numbers) > MOST_FOR_A_BIT:
            return [NOT_RIGHT]
        return self.say([1 if weight(word, numbers) >= needed else 0 for word in range(len(self.said))])

    def odd(self, chosen):
        """Yes to the words that meet this set of bits in an odd number of them."""
        if not self.has_word(chosen):
            return [NOT_RIGHT]
        return self.say([how_many_bits(word & chosen) % 2 for word in range(len(self.said))])

    def bit(self, bit):
        """Yes to the words that have this bit."""
        if not self.has_bit(bit):
            return [NO_SUCH_BIT]
        return self.say([bit_of(word, bit) for word in range(len(self.said))])

    def negated(self):
        """Yes to the words to which it was no, alone."""
        return self.say([1 - yes for yes in self.said])

    def turn(self, bit):
        """To each word what was said to it with this bit turned."""
        if not self.has_bit(bit):
            return [NO_SUCH_BIT]
        return self.say([self.said[word ^ (1 << bit)] for word in range(len(self.said))])

    def set_word(self, word, yes):
        """To this word yes (1) or no (0), to the others as before."""
        if not self.has_word(word) or yes > 1:
            return [NOT_RIGHT]
        said = list(self.said)
        said[word] = yes
        return self.say(said)

    def ask(self, word):
        """1 if it says yes to this word, else 0."""
        if not self.has_word(word):
            return [NOT_RIGHT]
        return [self.said[word]]

    def mean(self):
        """0, then to which part of all words it says yes."""
        return [0] + lowest_terms(sum(self.said), len(self.said))

    def rising(self):
        """1 if a yes is never a no with one more bit set, else 0."""
        for word, yes in enumerate(self.said):
            for bit in range(self.bits):
                if self.said[word | (1 << bit)] < yes:
                    return [0]
        return [1]
