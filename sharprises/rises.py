"""The calls on one new object: one list of whole numbers, answered by another one."""

from sharprises.answer import Answer

BEGIN = 0
TOLD = 1
LEAST = 2
ODD = 3
BIT = 4
NEGATED = 5
TURN = 6
SET_WORD = 7
ASK = 8
MEAN = 9
RISING = 10
SIDES = 11
STATE = 12
YES = 13
SWAYAT = 14
SLOPE = 15
SIZES = 16
HALF = 17
WIDTH = 18
TRIES = 19
STEEPEST = 20

# How many numbers each call has behind its own, ahead of its row: from begin, 0, to fixed, 21.
NUMBERS_OF_CALLS = (1, 0, 1, 1, 1, 0, 1, 2, 1, 0, 0, 0, 0, 2, 3, 2, 0, 1, 4, 3, 1, 1)

NOT_BEGUN = -11


class Reader:
    """Reads the numbers handed in, one behind another, and changes none of them."""

    def __init__(self, numbers):
        self.numbers = numbers
        self.place = 0

    def at_end(self):
        """Whether all is read."""
        return self.place >= len(self.numbers)

    def one(self):
        """The number that comes."""
        return self.several(1)[0]

    def several(self, many):
        """So many numbers, in a list of their own."""
        start = self.place
        self.place = start + many
        return self.numbers[start:self.place]

    def row(self):
        """The list that comes, which has before it how many numbers it has."""
        return self.several(self.one())


def reply_of_making(answer, call, given, row):
    """What a call answers that makes another answer."""
    if call == TOLD:
        return answer.told(row)
    if call == LEAST:
        return answer.least(given[0], row)
    if call == ODD:
        return answer.odd(given[0])
    if call == BIT:
        return answer.bit(given[0])
    if call == NEGATED:
        return answer.negated()
    if call == TURN:
        return answer.turn(given[0])
    return answer.set_word(given[0], given[1])


def reply_of_asking(answer, call, given):
    """What a call answers that asks about words alone."""
    if call == ASK:
        return answer.ask(given[0])
    if call == MEAN:
        return answer.mean()
    if call == RISING:
        return answer.rising()
    if call == SIDES:
        return answer.sides()
    return answer.state()


def reply_by_chance(answer, call, given):
    """What a call answers that asks how likely yes is, and how fast that rises."""
    if call == YES:
        return answer.yes(given[0], given[1])
    if call == SWAYAT:
        return answer.swayat(given[0], given[1], given[2])
    if call == SLOPE:
        return answer.slope(given[0], given[1])
    if call == SIZES:
        return answer.sizes()
    if call == HALF:
        return answer.half(given[0])
    if call == WIDTH:
        return answer.width(given[0], given[1], given[2], given[3])
    if call == TRIES:
        return answer.tries(given[0], given[1], given[2])
    if call == STEEPEST:
        return answer.steepest(given[0])
    return answer.fixed(given[0])


def reply(answer, call, given, row):
    """What one call answers: all its numbers, or a refusal's number alone."""
    if call == BEGIN:
        return answer.begin(given[0])
    if not answer.begun():
        return [NOT_BEGUN]
    if call <= SET_WORD:
        return reply_of_making(answer, call, given, row)
    if call <= STATE:
        return reply_of_asking(answer, call, given)
    return reply_by_chance(answer, call, given)


def answers(calls):
    """For each call, in order: how many numbers it answers, then these."""
    reader = Reader(calls)
    answer = Answer()
    replies = []
    while not reader.at_end():
        call = reader.one()
        given = reader.several(NUMBERS_OF_CALLS[call])
        row = reader.row() if call in (TOLD, LEAST) else []
        replied = reply(answer, call, given, row)
        replies.append(len(replied))
        replies.extend(replied)
    return replies
