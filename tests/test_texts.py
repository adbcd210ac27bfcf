"""Texts taken whole, held against rows that are really derived from the start.

The rows are made by the document's own words, each time by every rule of the leftmost nonterminal, without asking
which of them a token chooses. In a grammar without conflicts nothing rewrites itself to its own left, so that between
two tokens there are only so many rewritings.
"""

import random
import unittest

from tests.helper import NONE_FITS, SUM, ask, asked, built, conflicts, expected, take, text

MOST_CALLS = 400

# Each with how many tokens its texts have at most: the sum; brackets of two sorts; a list with a token between and
# perhaps one at its end; a token or a list of such in brackets, in which 4 stands ahead of the last; rules that come to
# nothing at both sides of a token; one nonterminal at places where different tokens are behind it.
GRAMMARS = (
    (SUM, 6),
    ((1, 4, ((0, (0, 4, 1, 4)), (0, (2, 4, 3, 4)), (0, ()))), 8),
    ((3, 3, ((0, (1, 4)), (0, ()), (1, (2, 5)), (1, ()), (2, (1, 4)), (2, ()))), 9),
    ((4, 5, ((0, (0,)), (0, (1, 6, 2)), (1, (5, 7)), (1, ()), (2, (3, 5, 7)), (2, (4, 8)), (2, ()), (3, (5,)))), 7),
    ((4, 3, ((0, (4, 0, 4, 5)), (1, (6, 6)), (2, (1, 5)), (2, ()), (3, ()))), 8),
    ((3, 4, ((0, (0, 5, 1)), (0, (2, 5, 3)), (1, (6, 6)), (2, ()))), 4),
)


class Derived:
    """What the start leads to, for texts of at most so many tokens.

    begun: rows of tokens that a derived row begins with, and the rules up to where the last of them stands leftmost;
    whole: the sentences, and all of their rules. One row of tokens is come to in one way alone.
    """

    def __init__(self, t, rules, longest):
        self.begun = {(): ()}
        self.whole = {}
        self.behind = {}
        waiting = [((), (t,), ())]
        while waiting:
            taken, to_come, used = waiting.pop()
            if len(used) > 200:
                raise ValueError("rewriting goes on for ever: " + str(rules))
            if len(to_come) == 0:
                self.keep(self.whole, taken, used)
                self.note(taken, t)
            elif to_come[0] < t:
                self.note(taken, to_come[0])
                if len(taken) < longest:
                    self.keep(self.begun, taken + to_come[:1], used)
                    waiting.append((taken + to_come[:1], to_come[1:], used))
            else:
                for number, (a, right) in enumerate(rules):
                    if to_come[0] == t + a:
                        waiting.append((taken, tuple(right) + to_come[1:], used + (number,)))

    def keep(self, rows, taken, used):
        if taken in rows:
            raise ValueError("come to in two ways: " + str(taken))
        rows[taken] = used

    def note(self, taken, token):
        self.behind.setdefault(taken, set()).add(token)


def many_ways(source):
    """A small grammar whose nonterminals have more rules than one, most of them with a token in front."""
    n = source.randrange(1, 4)
    t = source.randrange(2, 5)
    rules = []
    for a in range(n):
        for number in range(source.randrange(1, 4)):
            right = [source.randrange(t + n) for place in range(source.randrange(4))]
            if source.randrange(2) == 1:
                right.insert(0, source.randrange(t))
            rules.append((a, right))
    return n, t, rules


def leftmost(t, row):
    for place, symbol in enumerate(row):
        if symbol >= t:
            return place
    return None


def applied(t, rules, numbers):
    """The row that rules, each applied to the leftmost nonterminal, make of the start."""
    row = (t,)
    for number in numbers:
        place = leftmost(t, row)
        a, right = rules[number]
        if row[place] != t + a:
            raise ValueError("not a rule of the leftmost nonterminal")
        row = row[:place] + tuple(right) + row[place + 1:]
    return row


class Texts(unittest.TestCase):
    def ask_in_lists(self, n, t, rules, pieces):
        """The answers of each piece, where as many pieces as may be are asked in one list."""
        building = len(rules) + 2
        found = []
        waiting = []
        for piece in pieces + [None]:
            if piece is None or building + sum(len(part) for part in waiting) + len(piece) > MOST_CALLS:
                answers = asked(n, t, rules, [call for part in waiting for call in part])
                for part in waiting:
                    found.append(answers[:len(part)])
                    answers = answers[len(part):]
                waiting = []
            waiting.append(piece)
        return found

    def hold(self, grammar, longest):
        n, t, rules = grammar
        derived = Derived(t, rules, longest)
        rows = sorted(derived.begun)
        pieces = []
        for taken in rows:
            can = derived.behind.get(taken, set())
            # The end comes last, since it is the one that changes something: all others are refused.
            tokens = [token for token in range(t) if token not in can] + [t]
            pieces.append(text(taken) + [expected()] + [take(token) for token in tokens])
        for taken, answers in zip(rows, self.ask_in_lists(n, t, rules, pieces)):
            self.check(grammar, derived, taken, answers)
        return len(derived.whole)

    def check(self, grammar, derived, taken, answers):
        n, t, rules = grammar
        can = derived.behind.get(taken, set())
        told = []
        for answer in answers[:len(taken) + 1]:
            self.assertEqual(answer[0], 0)
            told.extend(answer[1:])
        self.assertEqual(tuple(told), derived.begun[taken])
        self.assertEqual(answers[len(taken) + 1], [0] + sorted(can))
        self.assertEqual(applied(t, rules, told)[:len(taken)], taken)
        refused = answers[len(taken) + 2:-1]
        self.assertEqual(refused, [NONE_FITS] * len(refused))
        if taken not in derived.whole:
            self.assertEqual(answers[-1], NONE_FITS)
        else:
            self.assertEqual(answers[-1][0], 0)
            told.extend(answers[-1][1:])
            self.assertEqual(tuple(told), derived.whole[taken])
            self.assertEqual(applied(t, rules, told), taken)

    def test_grammars_by_hand(self):
        for grammar, longest in GRAMMARS:
            with self.subTest(grammar=grammar):
                self.assertEqual(asked(*grammar, [conflicts()]), [[0]])
                self.assertGreater(self.hold(grammar, longest), 1)

    def test_small_grammars(self):
        source = random.Random(512)
        held = 0
        sentences = 0
        for turn in range(4000):
            grammar = many_ways(source)
            found = ask(*(built(*grammar) + [conflicts()]))
            if found[-2:] == [[0], [0]]:
                with self.subTest(grammar=grammar):
                    sentences += self.hold(grammar, 7)
                    held += 1
        self.assertGreater(held, 500)
        self.assertGreater(sentences, 1500)


if __name__ == "__main__":
    unittest.main()
