"""How a text under way takes one token, or the end.

What is still to come is a row of symbols. It is kept with its leftmost symbol
last, since a list is changed fast at its end alone. Rules, choices and sets
of tokens are those of grammarlook.derivations; the grammar has no useless
nonterminal and no conflict.
"""

from grammarlook.derivations import row_first
from grammarlook.derivations import row_settles

MOST_TOLD = 512
MOST_TO_COME = 512


def find_expected(to_come, t, nullable, firsts):
    """Gives the set of tokens, and the end, that can be taken next."""
    symbols = to_come[::-1]
    found = row_first(symbols, t, nullable, firsts)
    if row_settles(symbols, t, nullable, False):
        found = found | (1 << t)
    return found


def take_away(to_come, token, t, rules, choices):
    """Changes the row itself to what is to come once the token, or the end, is taken; gives the rules' numbers.

    The token, or the end, must be one that can be taken: then each choice holds just one rule. One rule more than
    can be told is enough to know that there are too many, and the rest could be without measure: it stops there.
    """
    told = []
    while len(to_come) > 0 and to_come[-1] >= t and len(told) <= MOST_TOLD:
        number = choices[to_come.pop() - t][token][0]
        to_come.extend(rules[number][1][::-1])
        told.append(number)
    if token < t and len(told) <= MOST_TOLD:
        to_come.pop()
    return told


def is_too_much(told, to_come):
    """Tells if more rules were applied, or more symbols are still to come, than may be."""
    return len(told) > MOST_TOLD or len(to_come) > MOST_TO_COME
