"""Calls put together by name, and what a line of them answers, call by call."""

from sharprises.rises import answers

BIGGEST = 4294967295

MEAN = [9]
RISING = [10]
NEGATED = [5]


def begin(n):
    return [0, n]


def told(words):
    return [1, len(words), *words]


def least(q, numbers):
    return [2, q, len(numbers), *numbers]


def odd(s):
    return [3, s]


def bit(i):
    return [4, i]


def turn(i):
    return [6, i]


def set_word(x, b):
    return [7, x, b]


def ask(x):
    return [8, x]


def ask_all(n):
    """One ask for each word of n bits."""
    return [ask(x) for x in range(2 ** n)]


def apart(answered, how_many):
    """The numbers answered, as one list for each of so many calls."""
    lists = []
    at = 0
    while at < len(answered):
        behind = at + 1 + answered[at]
        lists.append(answered[at + 1:behind])
        at = behind
    if at != len(answered) or len(lists) != how_many:
        raise ValueError(f"not the answers of {how_many} calls: {answered}")
    return lists


def run(*calls):
    """What each of the calls answers, on one new object."""
    return apart(answers([number for call in calls for number in call]), len(calls))


def yes_words(n, *calls):
    """To which words it says yes behind a begin of n and these calls, each word asked in a line short enough."""
    words = []
    for x in range(2 ** n):
        said = run(begin(n), *calls, ask(x))[-1]
        if said not in ([0], [1]):
            raise ValueError(f"ask answered {said}")
        if said == [1]:
            words.append(x)
    return words
