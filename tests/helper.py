"""Calls written by name, and answers taken apart again."""

from grammarlook.desk import answers

GREATEST = 4294967295
NOT_NOW = [-3]
OUT_OF_RANGE = [-1]
FULL = [-2]


def begin(n, t):
    return [0, n, t]


def rule(a, symbols):
    return [1, a, len(symbols)] + list(symbols)


def close():
    return [2]


def empty(a):
    return [3, a]


def first(a):
    return [4, a]


def follow(a):
    return [5, a]


def take_apart(numbers, count):
    """The answers of a number of calls, each a list; raises where the form isn't the document's."""
    found = []
    place = 0
    while place < len(numbers):
        length = numbers[place]
        if length < 1 or place + 1 + length > len(numbers):
            raise ValueError("a length that is none: " + str(length))
        found.append(numbers[place + 1:place + 1 + length])
        place += 1 + length
    if len(found) != count:
        raise ValueError("answers to another number of calls: " + str(len(found)))
    return found


def ask(*calls):
    """Makes the calls on one new object: a list of answers, one for each call."""
    together = []
    for call in calls:
        together.extend(call)
    return take_apart(answers(together), len(calls))


def built(n, t, rules):
    """The calls that build and close a grammar; rules are pairs of nonterminal and right side."""
    return [begin(n, t)] + [rule(a, symbols) for a, symbols in rules] + [close()]


def told(n, t, rules):
    """Of a grammar that can be closed: (comes to nothing, first, follow) of each nonterminal."""
    calls = built(n, t, rules)
    questions = []
    for a in range(n):
        questions.extend([empty(a), first(a), follow(a)])
    found = ask(*(calls + questions))
    if found[len(calls) - 1] != [0]:
        raise ValueError("not closed: " + str(found[len(calls) - 1]))
    found = found[len(calls):]
    for answer in found:
        if answer[0] != 0:
            raise ValueError("refused: " + str(answer))
    return [(found[3 * a][1:], found[3 * a + 1][1:], found[3 * a + 2][1:]) for a in range(n)]
