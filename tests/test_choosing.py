"""choose and conflicts of a closed grammar."""

import unittest

from tests.helper import GREATEST, NONE_FITS, NOT_NOW, OUT_OF_RANGE, SEVERAL, SUM, ask, asked, begin, built, choose
from tests.helper import close, conflicts, rule, soon


def everywhere(order):
    """A grammar of the greatest size in which each nonterminal is in conflict at each token and at the end.

    The first two rules of each are one for everything: all of them lead to all tokens and to nothing.
    """
    rules = []
    for a in order(range(32)):
        other = 63 + (a + 1) % 32
        rules.extend([(a, [other] * 8), (a, [other]), (a, [2 * a]), (a, [2 * a + 1] if a < 31 else [])])
    return rules


def every_clash(order):
    """What conflicts answers of everywhere."""
    found = [0]
    for a in range(32):
        number = 4 * list(order(range(32))).index(a)
        for token in range(64):
            found.extend([a, token, number, number + 1])
    return found


def choices(n, t, rules):
    """Of each nonterminal what choose answers for each token and the end: a rule's number or a refusal."""
    found = asked(n, t, rules, [choose(a, token) for a in range(n) for token in range(t + 1)])
    numbers = [answer[-1] for answer in found]
    return [numbers[a * (t + 1):(a + 1) * (t + 1)] for a in range(n)]


class Choose(unittest.TestCase):
    def test_while_open(self):
        calls = [choose(0, 0), choose(0, 2), choose(2, 0), choose(0, 3), choose(2, 3), choose(GREATEST, GREATEST)]
        found = ask(*([begin(2, 2), rule(0, [3]), rule(1, [])] + calls))
        self.assertEqual(found[3:], [NOT_NOW] * 6)
        self.assertEqual(ask(*([close()] + calls))[1:], [NOT_NOW] * 6)

    def test_a_out_of_range(self):
        for n in (1, 2, 32):
            rules = [(a, [5 + a + 1]) for a in range(n - 1)] + [(n - 1, [0])]
            found = asked(n, 5, rules, [choose(n - 1, 0), choose(n, 0), choose(GREATEST, 0), choose(n, 6)])
            self.assertEqual(found, [[0, n - 1], OUT_OF_RANGE, OUT_OF_RANGE, OUT_OF_RANGE])

    def test_token_out_of_range(self):
        for t in (1, 2, 63):
            calls = [choose(0, t), choose(0, t + 1), choose(0, GREATEST), choose(0, t - 1)]
            self.assertEqual(asked(1, t, [(0, []), (0, [t - 1])], calls), [[0, 0], OUT_OF_RANGE, OUT_OF_RANGE, [0, 1]])

    def test_out_of_range_ahead_of_none_and_more(self):
        found = asked(1, 1, [(0, [0]), (0, [0])], [choose(0, 0), choose(0, 1), choose(0, 2), choose(1, 0)])
        self.assertEqual(found, [SEVERAL, NONE_FITS, OUT_OF_RANGE, OUT_OF_RANGE])

    def test_rules_that_begin_with_it(self):
        self.assertEqual(choices(1, 3, [(0, [2]), (0, [0, 3])]), [[1, -4, 0, -4]])

    def test_the_numbers_are_the_whole_grammars(self):
        self.assertEqual(choices(2, 2, [(1, [1]), (0, [0, 3]), (1, [0]), (0, [1])]), [[1, 3, -4], [2, 0, -4]])

    def test_begins_with_it_through_another(self):
        self.assertEqual(choices(2, 4, [(0, [5, 0]), (0, [0]), (1, [2]), (1, [3])])[0], [1, -4, 0, 0, -4])

    def test_begins_with_it_through_symbols_that_can_come_to_nothing(self):
        # S -> A B 2 | 3, A -> 0 | nothing, B -> 1 | nothing: S, A, B are written 4, 5, 6.
        rules = [(0, [5, 6, 2]), (0, [3]), (1, [0]), (1, []), (2, [1]), (2, [])]
        self.assertEqual(choices(3, 4, rules), [[0, 0, 0, 1, -4], [2, 3, 3, -4, -4], [-4, 4, 5, -4, -4]])

    def test_not_through_a_symbol_that_stays(self):
        rules = [(0, [5, 6]), (1, [0]), (2, [1]), (2, [])]
        self.assertEqual(choices(3, 4, rules)[0], [0, -4, -4, -4, -4])

    def test_comes_to_nothing_and_it_can_follow(self):
        # S -> A 0 | 1 B, A -> nothing | 2, B -> A: A can be followed by 0 and by the end.
        found = choices(3, 3, [(0, [4, 0]), (0, [1, 5]), (1, []), (1, [2]), (2, [4])])
        self.assertEqual(found, [[0, 1, 0, -4], [2, -4, 3, 2], [-4, -4, 4, 4]])

    def test_comes_to_nothing_through_others(self):
        # S -> A 0, A -> B B, B -> C, C -> nothing.
        rules = [(0, [3, 0]), (1, [4, 4]), (2, [5]), (3, [])]
        self.assertEqual(choices(4, 2, rules), [[0, -4, -4], [1, -4, -4], [2, -4, -4], [3, -4, -4]])

    def test_what_can_follow_counts_only_if_it_comes_to_nothing(self):
        # S -> A 0, A -> 1.
        self.assertEqual(choices(2, 2, [(0, [3, 0]), (1, [1])]), [[-4, 0, -4], [-4, 1, -4]])

    def test_the_end(self):
        self.assertEqual(choices(1, 1, [(0, [])]), [[-4, 0]])
        self.assertEqual(choices(1, 1, [(0, [0, 1]), (0, [])]), [[0, 1]])
        self.assertEqual(choices(2, 2, [(0, [3, 3]), (1, [])]), [[-4, -4, 0], [-4, -4, 1]])
        self.assertEqual(choices(2, 2, [(0, [3, 0]), (1, [])])[1], [1, -4, -4])

    def test_two_rules_alike(self):
        self.assertEqual(choices(1, 2, [(0, [1]), (0, [1])]), [[-4, -5, -4]])
        self.assertEqual(choices(1, 2, [(0, []), (0, [])]), [[-4, -4, -5]])

    def test_three_rules(self):
        self.assertEqual(choices(1, 2, [(0, [1]), (0, [1, 2]), (0, [0]), (0, [1, 1])]), [[2, -5, -4]])

    def test_one_that_begins_and_one_that_comes_to_nothing(self):
        # S -> A 0, A -> 0 | nothing.
        self.assertEqual(choices(2, 1, [(0, [2, 0]), (1, [0]), (1, [])]), [[0, -4], [-5, -4]])

    def test_one_rule_that_is_one_in_both_ways_is_one(self):
        # S -> A 0, A -> B, B -> 0 | nothing: A's one rule can begin with 0, and come to nothing ahead of 0.
        self.assertEqual(choices(3, 1, [(0, [2, 0]), (1, [3]), (2, [0]), (2, [])]), [[0, -4], [1, -4], [-5, -4]])

    def test_rules_of_different_nonterminals_do_not_clash(self):
        self.assertEqual(choices(2, 1, [(0, [2]), (1, [0])]), [[0, -4], [1, -4]])

    def test_of_a_sum(self):
        self.assertEqual(choices(*SUM), [[-4, -4, 0, -4, 0, -4], [1, -4, -4, 2, -4, 2], [-4, -4, 3, -4, 3, -4],
                                         [5, 4, -4, 5, -4, 5], [-4, -4, 6, -4, 7, -4]])

    def test_answers_of_an_earlier_grammar_are_gone(self):
        calls = built(1, 2, [(0, [1])]) + built(1, 2, [(0, [0]), (0, [])]) + [choose(0, token) for token in range(4)]
        self.assertEqual(ask(*calls)[-4:], [[0, 0], NONE_FITS, [0, 1], OUT_OF_RANGE])

    def test_128_rules(self):
        rules = [(0, [token]) for token in range(63)] + [(0, [0])] * 65
        self.assertEqual(choices(1, 63, rules), [[-5] + list(range(1, 63)) + [-4]])


class Conflicts(unittest.TestCase):
    def clashes(self, n, t, rules):
        answer = asked(n, t, rules, [conflicts()])[0]
        self.assertEqual(answer[0], 0)
        self.assertEqual(len(answer) % 4, 1)
        return [tuple(answer[place:place + 4]) for place in range(1, len(answer), 4)]

    def test_while_open(self):
        self.assertEqual(ask(conflicts(), rule(0, [0]), rule(0, [0]), conflicts(), close(), conflicts()),
                         [NOT_NOW, [0, 0], [0, 1], NOT_NOW, [0], [0, 0, 0, 0, 1]])
        self.assertEqual(ask(close(), conflicts()), [[-6, 0], NOT_NOW])
        self.assertEqual(ask(*(built(1, 1, [(0, []), (0, [])]) + [begin(1, 1), conflicts()]))[-1], NOT_NOW)

    def test_none(self):
        for grammar in (SUM, (1, 1, [(0, [])]), (1, 63, [(0, [token]) for token in range(63)] + [(0, [])])):
            self.assertEqual(asked(*grammar, [conflicts()]), [[0]])

    def test_two_rules_alike(self):
        self.assertEqual(self.clashes(1, 1, [(0, [0]), (0, [0])]), [(0, 0, 0, 1)])
        self.assertEqual(self.clashes(1, 1, [(0, []), (0, [])]), [(0, 1, 0, 1)])

    def test_the_least_and_the_next_least_of_three(self):
        rules = [(0, [3]), (1, [0]), (0, [1]), (1, [1]), (1, [1, 1]), (1, [0, 0]), (1, [1, 0]), (1, [0, 1])]
        self.assertEqual(self.clashes(2, 2, rules), [(0, 1, 0, 2), (1, 0, 1, 5), (1, 1, 3, 4)])

    def test_one_that_begins_and_one_that_comes_to_nothing(self):
        self.assertEqual(self.clashes(2, 1, [(0, [2, 0]), (1, [0]), (1, [])]), [(1, 0, 1, 2)])
        self.assertEqual(self.clashes(2, 1, [(0, [2, 0]), (1, []), (1, [0])]), [(1, 0, 1, 2)])

    def test_two_that_come_to_nothing(self):
        # S -> A 0 | 1 A, A -> nothing | B, B -> nothing: B alone has one rule.
        rules = [(0, [3, 0]), (0, [1, 3]), (1, []), (1, [4]), (2, [])]
        self.assertEqual(self.clashes(3, 2, rules), [(1, 0, 2, 3), (1, 2, 2, 3)])

    def test_left_recursion(self):
        self.assertEqual(self.clashes(1, 2, [(0, [2, 0]), (0, [1])]), [(0, 1, 0, 1)])
        self.assertEqual(self.clashes(1, 2, [(0, [2]), (0, [])]), [(0, 2, 0, 1)])

    def test_in_the_order_of_the_nonterminal_then_of_the_token_the_end_last(self):
        # A's rules stand ahead of the start's, and those for the end ahead of those for tokens.
        rules = [(1, []), (1, [2]), (1, [0]), (0, [2, 4]), (1, [2]), (0, [1]), (1, []), (1, [0]), (0, [1]), (0, [2])]
        self.assertEqual(self.clashes(2, 3, rules),
                         [(0, 1, 5, 8), (0, 2, 3, 9), (1, 0, 2, 7), (1, 2, 1, 4), (1, 3, 0, 6)])

    def test_asked_again(self):
        calls = [conflicts(), choose(0, 0), conflicts(), close(), conflicts(), begin(0, 0), conflicts()]
        found = asked(1, 1, [(0, [0]), (0, [0])], calls)
        clash = [0, 0, 0, 0, 1]
        self.assertEqual(found, [clash, SEVERAL, clash, NOT_NOW, clash, OUT_OF_RANGE, clash])

    def test_of_an_earlier_grammar_are_gone(self):
        clashing = built(1, 1, [(0, [0]), (0, [0])])
        plain = built(1, 1, [(0, [0])])
        self.assertEqual(ask(*(clashing + plain + [conflicts()]))[-1], [0])
        self.assertEqual(ask(*(plain + clashing + [conflicts()]))[-1], [0, 0, 0, 0, 1])

    def test_everywhere_in_the_greatest_grammar(self):
        for order in (list, reversed):
            rules = everywhere(order)
            self.assertEqual(len(rules), 128)
            # Not assertEqual: it would take minutes to show where two long lists are not alike.
            self.assertTrue(asked(32, 63, rules, [conflicts()]) == [every_clash(order)])

    def test_everywhere_many_times_in_one_list(self):
        with soon():
            found = asked(32, 63, everywhere(list), [conflicts()] * 270)
        self.assertTrue(found == [every_clash(list)] * 270)


if __name__ == "__main__":
    unittest.main()
