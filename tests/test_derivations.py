"""What is told of small grammars, held against rows that are really derived from the start.

The rows are made by the document's own words: one nonterminal anywhere in a row is rewritten by one of its
rules. Rows longer than a bound are dropped: a longer bound is needed only by grammars that don't come up here,
since the grammars are always the same ones.
"""

import random
import unittest

from tests.helper import ask, asked, built, choose, conflicts, start, told

LONGEST = 8


def rewritings(row, t, rules):
    found = []
    for place, symbol in enumerate(row):
        for a, right in rules:
            if symbol == t + a:
                found.append(row[:place] + tuple(right) + row[place + 1:])
    return found


def rows_from(row, t, rules):
    """All rows up to the bound that a row leads to by rows within the bound."""
    seen = {tuple(row)}
    waiting = [tuple(row)]
    while waiting:
        for row in rewritings(waiting.pop(), t, rules):
            if len(row) <= LONGEST and row not in seen:
                seen.add(row)
                waiting.append(row)
    return seen


def useless_by_rows(n, t, rows):
    found = []
    for a in range(n):
        ends = any(all(symbol < t for symbol in row) for row in rows[a])
        stands = any(t + a in row for row in rows[0])
        if not (ends and stands):
            found.append(a)
    return found


def follow_by_rows(a, t, rows):
    found = set()
    for row in rows[0]:
        for place, symbol in enumerate(row):
            if symbol == t + a:
                behind = row[place + 1] if place + 1 < len(row) else t
                if behind <= t and (behind < t or place + 1 == len(row)):
                    found.add(behind)
    return sorted(found)


def begins_by_rows(t, rows):
    return sorted(set(row[0] for row in rows if len(row) > 0 and row[0] < t))


def told_by_rows(n, t, rows):
    found = []
    for a in range(n):
        found.append(([1 if () in rows[a] else 0], begins_by_rows(t, rows[a]), follow_by_rows(a, t, rows)))
    return found


def ones_by_rows(n, t, rules, rows):
    """Of each nonterminal and each token (the end last) the numbers of the rules that are one."""
    found = [[[] for token in range(t + 1)] for a in range(n)]
    for number, (a, right) in enumerate(rules):
        made = rows_from(right, t, rules)
        tokens = set(begins_by_rows(t, made))
        if () in made:
            tokens.update(follow_by_rows(a, t, rows))
        for token in tokens:
            found[a][token].append(number)
    return found


def choices_by_rows(ones):
    found = []
    for row in ones:
        for numbers in row:
            found.append([-4] if len(numbers) == 0 else [0] + numbers if len(numbers) == 1 else [-5])
    return found


def conflicts_by_rows(ones):
    found = [0]
    for a, row in enumerate(ones):
        for token, numbers in enumerate(row):
            if len(numbers) > 1:
                found.extend([a, token] + numbers[:2])
    return found


def small_grammar(source):
    n = source.randrange(1, 4)
    t = source.randrange(1, 3)
    rules = []
    for number in range(source.randrange(n, 2 * n + 2)):
        a = number if number < n else source.randrange(n)
        right = [source.randrange(t + n) for place in range(source.choice((0, 1, 1, 2, 2, 3)))]
        rules.append((a, right))
    return n, t, rules


class Derivations(unittest.TestCase):
    def test_small_grammars(self):
        source = random.Random(28)
        closed = 0
        refused = 0
        plain = 0
        for turn in range(200):
            n, t, rules = small_grammar(source)
            rows = [rows_from([t + a], t, rules) for a in range(n)]
            useless = useless_by_rows(n, t, rows)
            with self.subTest(n=n, t=t, rules=rules):
                if len(useless) > 0:
                    refused += 1
                    self.assertEqual(ask(*built(n, t, rules))[-1], [-6, useless[0]])
                else:
                    closed += 1
                    self.assertEqual(told(n, t, rules), told_by_rows(n, t, rows))
                    ones = ones_by_rows(n, t, rules, rows)
                    clashes = conflicts_by_rows(ones)
                    plain += 1 if clashes == [0] else 0
                    calls = [choose(a, token) for a in range(n) for token in range(t + 1)] + [conflicts(), start()]
                    self.assertEqual(asked(n, t, rules, calls),
                                     choices_by_rows(ones) + [clashes, [0] if clashes == [0] else [-5]])
        self.assertGreater(closed, 50)
        self.assertGreater(refused, 50)
        self.assertGreater(plain, 20)
        self.assertGreater(closed - plain, 20)


if __name__ == "__main__":
    unittest.main()
