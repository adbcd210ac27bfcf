"""What the rules of a grammar lead to.

Everywhere here n is the number of nonterminals, t the number of tokens, and
a rule is a tuple: its nonterminal, then the tuple of its right side. A symbol
below t is a token, any other is the nonterminal symbol - t.

A set of tokens is one whole number: bit a stands for token a, bit t for the
end. So two sets are joined in one step, however many tokens there are.
"""


def row_settles(symbols, t, settled, tokens_stay):
    """Tells if each symbol is a settled nonterminal or, where tokens may stay, a token."""
    for symbol in symbols:
        if symbol < t:
            if not tokens_stay:
                return False
        elif not settled[symbol - t]:
            return False
    return True


def settling(n, t, rules, tokens_stay):
    """Tells of each nonterminal if it leads to a row without nonterminals (and tokens, unless they may stay)."""
    settled = [False] * n
    changed = True
    while changed:
        changed = False
        for rule in rules:
            if not settled[rule[0]] and row_settles(rule[1], t, settled, tokens_stay):
                settled[rule[0]] = True
                changed = True
    return settled


def find_nullable(n, t, rules):
    """Tells of each nonterminal if it can come to nothing."""
    return settling(n, t, rules, False)


def mark_nonterminals(symbols, t, marked):
    """Marks the nonterminals of a row; tells if one of them was not marked before."""
    news = False
    for symbol in symbols:
        if symbol >= t and not marked[symbol - t]:
            marked[symbol - t] = True
            news = True
    return news


def find_reached(n, t, rules):
    """Tells of each nonterminal if the start leads to some row in which it stands."""
    reached = [False] * n
    reached[0] = True
    changed = True
    while changed:
        changed = False
        for rule in rules:
            if reached[rule[0]] and mark_nonterminals(rule[1], t, reached):
                changed = True
    return reached


def find_useless(n, t, rules):
    """Gives the useless nonterminals, rising."""
    # The two conditions are judged apart, each over all rules: a nonterminal is reached also in a row that
    # never becomes tokens, since the document asks only that it stands in some row.
    ending = settling(n, t, rules, True)
    reached = find_reached(n, t, rules)
    return [a for a in range(n) if not (ending[a] and reached[a])]


def row_first(symbols, t, nullable, firsts):
    """Gives the set of tokens that a row can begin with, as far as firsts tells it of the nonterminals."""
    found = 0
    for symbol in symbols:
        if symbol < t:
            return found | (1 << symbol)
        found = found | firsts[symbol - t]
        if not nullable[symbol - t]:
            return found
    return found


def find_firsts(n, t, rules, nullable):
    """Gives for each nonterminal the set of tokens that it can begin with."""
    firsts = [0] * n
    changed = True
    while changed:
        changed = False
        for rule in rules:
            found = firsts[rule[0]] | row_first(rule[1], t, nullable, firsts)
            if found != firsts[rule[0]]:
                firsts[rule[0]] = found
                changed = True
    return firsts


def spread_follow(rule, t, nullable, firsts, follows):
    """Adds to follows what one rule tells of the nonterminals in its right side; tells if some of it is new."""
    news = False
    behind = follows[rule[0]]
    for symbol in reversed(rule[1]):
        if symbol < t:
            behind = 1 << symbol
        else:
            a = symbol - t
            found = follows[a] | behind
            if found != follows[a]:
                follows[a] = found
                news = True
            behind = firsts[a] | (behind if nullable[a] else 0)
    return news


def find_follows(n, t, rules, nullable, firsts):
    """Gives for each nonterminal the set of tokens, and the end, that can follow it.

    This is true of the derivations only where no nonterminal is useless.
    """
    follows = [0] * n
    follows[0] = 1 << t
    changed = True
    while changed:
        changed = False
        for rule in rules:
            if spread_follow(rule, t, nullable, firsts, follows):
                changed = True
    return follows


def rule_tokens(rule, t, nullable, firsts, follows):
    """Gives the set of tokens, and the end, that a rule is one for."""
    found = row_first(rule[1], t, nullable, firsts)
    if row_settles(rule[1], t, nullable, False):
        found = found | follows[rule[0]]
    return found


def find_choices(n, t, rules, nullable, firsts, follows):
    """Gives for each nonterminal and each token (the end last) the numbers of the rules that are one, rising."""
    choices = []
    for a in range(n):
        choices.append([[] for token in range(t + 1)])
    for number, rule in enumerate(rules):
        found = rule_tokens(rule, t, nullable, firsts, follows)
        for token in range(t + 1):
            if (found >> token) & 1 == 1:
                choices[rule[0]][token].append(number)
    return choices


def find_conflicts(choices):
    """Gives of each conflict, in their order, four numbers: nonterminal, token, the two least rules."""
    found = []
    for a, row in enumerate(choices):
        for token, numbers in enumerate(row):
            if len(numbers) > 1:
                found.extend([a, token, numbers[0], numbers[1]])
    return found
