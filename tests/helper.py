"""Calls written by name, and answers taken apart again."""

import contextlib
import signal

from grammarlook.desk import answers

GREATEST = 4294967295
NOT_NOW = [-3]
OUT_OF_RANGE = [-1]
TOO_MANY = [-2]
NONE_FITS = [-4]
SEVERAL = [-5]
SECONDS = 20

# A sum of products: S -> P T, T -> 0 P T | nothing, P -> F U, U -> 1 F U | nothing, F -> 2 S 3 | 4.
# S, T, P, U, F are written 5, 6, 7, 8, 9.
SUM = (5, 5, ((0, (7, 6)), (1, (0, 7, 6)), (1, ()), (2, (9, 8)), (3, (1, 9, 8)), (3, ()), (4, (2, 5, 3)), (4, (4,))))


def begin(n, t):
    return [0, n, t]


def rule(a, symbols):
    return [1, a, len(symbols)] + list(symbols)


def close():
    return [2]


def empty(a):
    return [3, a]


def first(a):
    return [4, a]


def follow(a):
    return [5, a]


def choose(a, token):
    return [6, a, token]


def conflicts():
    return [7]


def start():
    return [8]


def take(token):
    """The document's next, which Python means otherwise."""
    return [9, token]


def expected():
    return [10]


def text(tokens):
    """The calls that begin a text and take its tokens."""
    return [start()] + [take(token) for token in tokens]


@contextlib.contextmanager
def soon():
    """Fails what takes longer than some seconds, so that what would take for ever is seen as a failure."""
    def late(number, frame):
        raise AssertionError("not soon")

    before = signal.signal(signal.SIGALRM, late)
    signal.alarm(SECONDS)
    try:
        yield
    finally:
        signal.alarm(0)
        signal.signal(signal.SIGALRM, before)


def take_apart(numbers, count):
    """The answers of a number of calls, each a list; raises where the form isn't the document's."""
    found = []
    place = 0
    while place < len(numbers):
        length = numbers[place]
        if length < 1 or place + 1 + length > len(numbers):
            raise ValueError("a length that is none: " + str(length))
        found.append(numbers[place + 1:place + 1 + length])
        place += 1 + length
    if len(found) != count:
        raise ValueError("answers to another number of calls: " + str(len(found)))
    return found


def ask(*calls):
    """Makes the calls on one new object: a list of answers, one for each call."""
    together = []
    for call in calls:
        together.extend(call)
    if not 1 <= len(calls) <= 400 or len(together) > 31000:
        raise ValueError("a list that the document doesn't allow")
    return take_apart(answers(together), len(calls))


def built(n, t, rules):
    """The calls that build and close a grammar; rules are pairs of nonterminal and right side."""
    return [begin(n, t)] + [rule(a, symbols) for a, symbols in rules] + [close()]


def asked(n, t, rules, calls):
    """The answers of calls on a grammar that can be closed, without those that build it."""
    building = built(n, t, rules)
    found = ask(*(building + calls))
    if found[len(building) - 1] != [0]:
        raise ValueError("not closed: " + str(found[len(building) - 1]))
    return found[len(building):]


def told(n, t, rules):
    """Of a grammar that can be closed: (comes to nothing, first, follow) of each nonterminal."""
    questions = []
    for a in range(n):
        questions.extend([empty(a), first(a), follow(a)])
    found = asked(n, t, rules, questions)
    for answer in found:
        if answer[0] != 0:
            raise ValueError("refused: " + str(answer))
    return [(found[3 * a][1:], found[3 * a + 1][1:], found[3 * a + 2][1:]) for a in range(n)]
