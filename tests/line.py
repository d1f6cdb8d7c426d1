"""Calls put together by name, what a line of them answers, call by call; and chances, counted word by word."""

from fractions import Fraction

from sharprises.rises import answers

BIGGEST = 4294967295

MEAN = [9]
RISING = [10]
NEGATED = [5]
SIDES = [11]
STATE = [12]
SIZES = [16]


def begin(n):
    return [0, n]


def told(words):
    return [1, len(words), *words]


def least(q, numbers):
    return [2, q, len(numbers), *numbers]


def odd(s):
    return [3, s]


def bit(i):
    return [4, i]


def turn(i):
    return [6, i]


def set_word(x, b):
    return [7, x, b]


def ask(x):
    return [8, x]


def yes(a, b):
    return [13, a, b]


def swayat(i, a, b):
    return [14, i, a, b]


def slope(a, b):
    return [15, a, b]


def half(d):
    return [17, d]


def width(d, u, v, w):
    return [18, d, u, v, w]


def tries(a, b, k):
    return [19, a, b, k]


def steepest(d):
    return [20, d]


def fixed(d):
    return [21, d]


def ask_all(n):
    """One ask for each word of n bits."""
    return [ask(x) for x in range(2 ** n)]


def apart(answered, how_many):
    """The numbers answered, as one list for each of so many calls."""
    lists = []
    at = 0
    while at < len(answered):
        behind = at + 1 + answered[at]
        lists.append(answered[at + 1:behind])
        at = behind
    if at != len(answered) or len(lists) != how_many:
        raise ValueError(f"not the answers of {how_many} calls: {answered}")
    return lists


def run(*calls):
    """What each of the calls answers, on one new object."""
    return apart(answers([number for call in calls for number in call]), len(calls))


def yes_words(n, *calls):
    """To which words it says yes behind a begin of n and these calls, each word asked in a line short enough."""
    words = []
    for x in range(2 ** n):
        said = run(begin(n), *calls, ask(x))[-1]
        if said not in ([0], [1]):
            raise ValueError(f"ask answered {said}")
        if said == [1]:
            words.append(x)
    return words


def asked(n, words, *calls):
    """What the calls answer behind a begin of n bits, if it says yes to these words alone."""
    return run(begin(n), told(words), *calls)[2:]


def two_numbers(fraction):
    """The fraction's two numbers, as they are answered."""
    return [fraction.numerator, fraction.denominator]


def likely_word(n, x, p):
    """How likely the word x of n bits is at the chance p."""
    product = Fraction(1)
    for i in range(n):
        product *= p if x & 2 ** i else 1 - p
    return product


def likely(n, words, p):
    """How likely the words are at the chance p, together."""
    return sum((likely_word(n, x, p) for x in words), Fraction(0))


def sway(n, words, i, p):
    """How likely the words are at which with bit i turned the answer is another one."""
    return likely(n, [x for x in range(2 ** n) if (x in words) != (x ^ 2 ** i in words)], p)


def fast(n, words, p):
    """How fast it rises at p: bit by bit, how much likelier yes is with this one set than with it not set."""
    together = Fraction(0)
    for x in range(2 ** n):
        for i in range(n):
            if not x & 2 ** i:
                up = ((x | 2 ** i) in words) - (x in words)
                # The word without bit i, as one of n - 1 bits.
                others = x & (2 ** i - 1) | x >> (i + 1) << i
                together += up * likely_word(n - 1, others, p)
    return together


def likely_by(n, words, d):
    """How likely the words are at each a by d, from 0 to d."""
    return [likely(n, words, Fraction(a, d)) for a in range(d + 1)]


def never_a_no_above(words, n):
    """Rising, told otherwise: whatever has all the bits of a yes is a yes."""
    return all(y in words for x in words for y in range(2 ** n) if x & y == x)


def words_of_mask(mask, n):
    return [x for x in range(2 ** n) if mask & 2 ** x]


def rising_answers():
    """All answers of up to three bits that are rising, and some of four and five: bits and words."""
    found = []
    for n in (1, 2, 3):
        for mask in range(2 ** 2 ** n):
            words = words_of_mask(mask, n)
            if never_a_no_above(words, n):
                found.append((n, words))
    for n in (4, 5):
        for needed in range(n + 2):
            found.append((n, [x for x in range(2 ** n) if bin(x).count("1") >= needed]))
        for i in range(n):
            found.append((n, [x for x in range(2 ** n) if x & 2 ** i]))
        found.append((n, [x for x in range(2 ** n) if x & 1 or x & 6 == 6]))
        found.append((n, [x for x in range(2 ** n) if x & 3 and x & 12]))
    return found


def other_answers():
    """Some answers that aren't rising: bits and words."""
    found = [(1, [0]), (2, [0]), (2, [1, 2]), (2, [0, 3]), (2, [0, 1]), (3, [0, 7]), (3, [1, 2, 4, 7]), (3, [1, 6]),
             (3, [0, 1, 2, 4]), (4, [0, 5, 6, 9]), (4, [3, 12, 15]), (5, [0]), (5, [1, 2, 4, 8, 16]), (5, [30]),
             (5, [0, 3, 9, 14, 17, 22, 28, 31])]
    for n in (4, 5):
        found.append((n, [x for x in range(2 ** n) if bin(x).count("1") % 2 == 1]))
    return found
