"""The object that the calls are made on.

Each method that is a call gives back its answer as a list of whole numbers:
0 and what is answered, or the refusal.
"""

from grammarlook.derivations import find_choices
from grammarlook.derivations import find_conflicts
from grammarlook.derivations import find_firsts
from grammarlook.derivations import find_follows
from grammarlook.derivations import find_nullable
from grammarlook.derivations import find_useless
from grammarlook.taking import find_expected
from grammarlook.taking import is_too_much
from grammarlook.taking import take_away

DONE = 0
OUT_OF_RANGE = -1
TOO_MANY = -2
NOT_NOW = -3
NONE_FITS = -4
SEVERAL = -5
USELESS = -6

MOST_NONTERMINALS = 32
MOST_TOKENS = 63
MOST_RULES = 128
MOST_SYMBOLS = 8


def members(bits, t):
    """Gives the tokens of a set, rising; the end is t."""
    return [token for token in range(t + 1) if (bits >> token) & 1 == 1]


class Grammar:
    """A grammar that is built rule by rule, closed, and then asked, and the text that it takes."""

    def __init__(self):
        self.begin(1, 1)

    def begin(self, n, t):
        """Call 0."""
        if n < 1 or n > MOST_NONTERMINALS or t < 1 or t > MOST_TOKENS:
            return [OUT_OF_RANGE]
        self.nonterminals = n
        self.tokens = t
        self.rules = []
        self.closed = False
        self.nullable = []
        self.firsts = []
        self.follows = []
        self.choices = []
        self.clashes = []
        # None where no text is under way: an empty row is one whose end can still be taken.
        self.to_come = None
        return [DONE]

    def symbols_fit(self, symbols):
        """Tells if a row can be the right side of a rule."""
        if len(symbols) > MOST_SYMBOLS:
            return False
        for symbol in symbols:
            if symbol >= self.tokens + self.nonterminals:
                return False
        return True

    def rule(self, a, symbols):
        """Call 1."""
        if self.closed:
            return [NOT_NOW]
        if a >= self.nonterminals or not self.symbols_fit(symbols):
            return [OUT_OF_RANGE]
        if len(self.rules) >= MOST_RULES:
            return [TOO_MANY]
        self.rules.append((a, tuple(symbols)))
        return [DONE, len(self.rules) - 1]

    def close(self):
        """Call 2."""
        if self.closed:
            return [NOT_NOW]
        useless = find_useless(self.nonterminals, self.tokens, self.rules)
        if len(useless) > 0:
            return [USELESS, useless[0]]
        self.work_out()
        self.closed = True
        return [DONE]

    def work_out(self):
        """Finds once what is asked later, since a closed grammar doesn't change."""
        n = self.nonterminals
        t = self.tokens
        self.nullable = find_nullable(n, t, self.rules)
        self.firsts = find_firsts(n, t, self.rules, self.nullable)
        self.follows = find_follows(n, t, self.rules, self.nullable, self.firsts)
        self.choices = find_choices(n, t, self.rules, self.nullable, self.firsts, self.follows)
        self.clashes = find_conflicts(self.choices)

    def refusal(self, a):
        """Gives the refusal of a question about nonterminal a: empty if there is none."""
        if not self.closed:
            return [NOT_NOW]
        if a >= self.nonterminals:
            return [OUT_OF_RANGE]
        return []

    def empty(self, a):
        """Call 3."""
        refused = self.refusal(a)
        if len(refused) > 0:
            return refused
        return [DONE, 1 if self.nullable[a] else 0]

    def first(self, a):
        """Call 4."""
        refused = self.refusal(a)
        if len(refused) > 0:
            return refused
        return [DONE] + members(self.firsts[a], self.tokens)

    def follow(self, a):
        """Call 5."""
        refused = self.refusal(a)
        if len(refused) > 0:
            return refused
        return [DONE] + members(self.follows[a], self.tokens)

    def choose(self, a, token):
        """Call 6."""
        refused = self.refusal(a)
        if len(refused) > 0:
            return refused
        if token > self.tokens:
            return [OUT_OF_RANGE]
        numbers = self.choices[a][token]
        if len(numbers) > 1:
            return [SEVERAL]
        if len(numbers) == 0:
            return [NONE_FITS]
        return [DONE, numbers[0]]

    def conflicts(self):
        """Call 7."""
        if not self.closed:
            return [NOT_NOW]
        return [DONE] + self.clashes

    def start(self):
        """Call 8."""
        if not self.closed:
            return [NOT_NOW]
        if len(self.clashes) > 0:
            return [SEVERAL]
        self.to_come = [self.tokens]
        return [DONE]

    def expected_bits(self):
        """Gives the set of what can be taken next, where a text is under way."""
        return find_expected(self.to_come, self.tokens, self.nullable, self.firsts)

    def take(self, token):
        """Call 9."""
        if self.to_come is None:
            return [NOT_NOW]
        if token > self.tokens:
            return [OUT_OF_RANGE]
        if (self.expected_bits() >> token) & 1 == 0:
            return [NONE_FITS]
        # Worked on a copy, since only at its end it is known if the token is refused.
        left = list(self.to_come)
        told = take_away(left, token, self.tokens, self.rules, self.choices)
        if is_too_much(told, left):
            return [TOO_MANY]
        self.to_come = None if token == self.tokens else left
        return [DONE] + told

    def expected(self):
        """Call 10."""
        if self.to_come is None:
            return [NOT_NOW]
        return [DONE] + members(self.expected_bits(), self.tokens)
