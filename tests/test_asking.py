"""empty, first and follow of a closed grammar."""

import unittest

from tests.helper import GREATEST, NOT_NOW, OUT_OF_RANGE, SUM, ask, begin, built, close, empty, first, follow, rule
from tests.helper import told


class Refused(unittest.TestCase):
    def test_while_open(self):
        for call in (empty, first, follow):
            found = ask(begin(2, 2), rule(0, [3]), rule(1, []), call(0), call(1), call(2), call(GREATEST))
            self.assertEqual(found[3:], [NOT_NOW] * 4)

    def test_after_a_refused_close(self):
        for call in (empty, first, follow):
            self.assertEqual(ask(close(), call(0), call(1)), [[-6, 0], NOT_NOW, NOT_NOW])

    def test_out_of_range(self):
        for n in (1, 2, 32):
            rules = [(a, [5 + a + 1]) for a in range(n - 1)] + [(n - 1, [])]
            for call in (empty, first, follow):
                found = ask(*(built(n, 5, rules) + [call(n - 1), call(n), call(GREATEST), call(n - 1)]))
                self.assertEqual(found[-3:-1], [OUT_OF_RANGE] * 2)
                self.assertEqual(found[-1], found[-4])
                self.assertEqual(found[-1][0], 0)

    def test_asking_changes_nothing(self):
        calls = [empty(0), first(0), follow(0), empty(1), first(1), follow(1)]
        found = ask(*(built(2, 2, [(0, [3, 0]), (1, [1]), (1, [])]) + calls + [empty(2), close()] + calls))
        self.assertEqual(found[5:11], [[0, 0], [0, 0, 1], [0, 2], [0, 1], [0, 1], [0, 0]])
        self.assertEqual(found[13:], found[5:11])


class Empty(unittest.TestCase):
    def empties(self, n, t, rules):
        return [answer[0][0] for answer in told(n, t, rules)]

    def test_by_its_own_rule(self):
        self.assertEqual(self.empties(1, 1, [(0, [])]), [1])
        self.assertEqual(self.empties(1, 1, [(0, [0])]), [0])
        self.assertEqual(self.empties(1, 1, [(0, [0]), (0, [])]), [1])

    def test_only_through_others(self):
        self.assertEqual(self.empties(4, 1, [(0, [2, 3]), (1, [4, 4]), (2, [4]), (3, []), (3, [0])]), [1, 1, 1, 1])
        self.assertEqual(self.empties(4, 1, [(0, [2, 3]), (1, [4, 4]), (2, [4, 0]), (3, [])]), [0, 1, 0, 1])

    def test_one_symbol_that_stays_is_enough(self):
        for place in range(8):
            row = [2] * 8
            row[place] = 0
            self.assertEqual(self.empties(2, 1, [(0, row), (1, [])]), [0, 1])

    def test_around_in_a_ring(self):
        self.assertEqual(self.empties(3, 1, [(0, [2]), (1, [3]), (2, [1]), (2, [0])]), [0, 0, 0])
        self.assertEqual(self.empties(3, 1, [(0, [2]), (1, [3]), (2, [1]), (2, [])]), [1, 1, 1])

    def test_through_31_others(self):
        chain = [(a, [1 + a + 1] * 8) for a in range(31)]
        self.assertEqual(self.empties(32, 1, chain + [(31, [])]), [1] * 32)
        self.assertEqual(self.empties(32, 1, chain + [(31, [0])]), [0] * 32)


class First(unittest.TestCase):
    def firsts(self, n, t, rules):
        return [answer[1] for answer in told(n, t, rules)]

    def test_of_the_token_in_front_alone(self):
        self.assertEqual(self.firsts(1, 3, [(0, [2, 0]), (0, [1, 1])]), [[1, 2]])

    def test_of_nothing(self):
        self.assertEqual(self.firsts(2, 1, [(0, [2]), (1, [])]), [[], []])

    def test_through_symbols_that_can_come_to_nothing(self):
        rules = [(0, [6, 7, 8, 4]), (1, [0]), (1, []), (2, [1]), (2, []), (3, [2]), (3, [3, 0])]
        self.assertEqual(self.firsts(4, 5, rules), [[0, 1, 2, 3], [0], [1], [2, 3]])
        self.assertEqual(self.firsts(4, 5, rules + [(3, [])]), [[0, 1, 2, 3, 4], [0], [1], [2, 3]])

    def test_left_recursion(self):
        self.assertEqual(self.firsts(1, 3, [(0, [3, 0]), (0, [1])]), [[1]])
        self.assertEqual(self.firsts(1, 3, [(0, [3, 0]), (0, [1]), (0, [])]), [[0, 1]])
        self.assertEqual(self.firsts(2, 3, [(0, [4, 3, 0]), (0, [2]), (1, []), (1, [1])]), [[1, 2], [1]])

    def test_around_in_a_ring(self):
        rules = [(0, [6, 0]), (1, [7]), (2, [5, 1]), (0, [2]), (1, [3]), (2, [4])]
        self.assertEqual(self.firsts(3, 5, rules), [[2, 3, 4]] * 3)

    def test_a_rule_that_is_the_nonterminal_itself(self):
        self.assertEqual(self.firsts(1, 2, [(0, [2]), (0, [1])]), [[1]])
        self.assertEqual(self.firsts(1, 2, [(0, [2, 2, 0]), (0, []), (0, [2])]), [[0]])

    def test_the_end_is_never_in_it(self):
        for t in (1, 2, 63):
            self.assertEqual(self.firsts(1, t, [(0, []), (0, [t - 1])]), [[t - 1]])


class Follow(unittest.TestCase):
    def follows(self, n, t, rules):
        return [answer[2] for answer in told(n, t, rules)]

    def test_of_the_start(self):
        self.assertEqual(self.follows(1, 3, [(0, [])]), [[3]])
        self.assertEqual(self.follows(1, 3, [(0, [0, 3, 1]), (0, [])]), [[1, 3]])
        self.assertEqual(self.follows(1, 3, [(0, [3, 3]), (0, [2])]), [[2, 3]])

    def test_of_a_token_directly_behind(self):
        self.assertEqual(self.follows(2, 3, [(0, [4, 2, 0, 4, 1]), (1, [])]), [[3], [1, 2]])

    def test_of_what_the_next_can_begin_with(self):
        self.assertEqual(self.follows(3, 4, [(0, [5, 6]), (1, [0]), (2, [1, 0]), (2, [2])]), [[4], [1, 2], [4]])

    def test_through_symbols_that_can_come_to_nothing(self):
        rules = [(0, [6, 7, 8, 4]), (1, [0]), (2, [1]), (2, []), (3, [2, 3])]
        self.assertEqual(self.follows(4, 5, rules), [[5], [1, 2], [2], [4]])
        self.assertEqual(self.follows(4, 5, rules + [(3, [])]), [[5], [1, 2, 4], [2, 4], [4]])

    def test_from_the_follow_of_the_rules_own_nonterminal(self):
        self.assertEqual(self.follows(3, 4, [(0, [5, 2]), (0, [1, 5]), (1, [0, 6]), (2, [3])]), [[4], [2, 4], [2, 4]])
        rules = [(0, [5, 2]), (1, [6, 6]), (2, [3]), (2, [])]
        self.assertEqual(self.follows(3, 4, rules), [[4], [2], [2, 3]])

    def test_around_in_a_ring(self):
        rules = [(0, [6]), (1, [7, 0]), (1, [7]), (2, [5]), (2, [5, 1]), (2, [3])]
        self.assertEqual(self.follows(3, 5, rules), [[0, 1, 5]] * 3)

    def test_left_recursion(self):
        # A sum of products: S -> S 0 P | P, P -> P 1 F | F, F -> 2 S 3 | 4.
        rules = [(0, [5, 0, 6]), (0, [6]), (1, [6, 1, 7]), (1, [7]), (2, [2, 5, 3]), (2, [4])]
        self.assertEqual(told(3, 5, rules), [([0], [2, 4], [0, 3, 5]), ([0], [2, 4], [0, 1, 3, 5]),
                                             ([0], [2, 4], [0, 1, 3, 5])])

    def test_without_left_recursion(self):
        self.assertEqual(told(*SUM), [([0], [2, 4], [3, 5]), ([1], [0], [3, 5]), ([0], [2, 4], [0, 3, 5]),
                                      ([1], [1], [0, 3, 5]), ([0], [2, 4], [0, 1, 3, 5])])

    def test_the_end_is_t_and_stands_last(self):
        for t in (1, 2, 63):
            rules = [(0, [t + 1]), (0, [t + 1, t - 1]), (0, [t + 1, 0]), (1, [])]
            self.assertEqual(self.follows(2, t, rules)[1], sorted(set([0, t - 1, t])))

    def test_the_end_is_not_in_it_where_a_token_always_stands_behind(self):
        self.assertEqual(self.follows(2, 2, [(0, [3, 0]), (1, [1])]), [[2], [0]])


class Greatest(unittest.TestCase):
    """32 nonterminals, 63 tokens, 128 rules of 8 symbols."""

    def spread(self, order):
        # Each nonterminal has 4 rules; all but the last one's lead to the next nonterminal, at both sides.
        rules = []
        for a in range(32):
            behind = 63 + (a + 1) % 32
            rules.append((a, [behind] * 8))
            rules.append((a, [behind, 2 * a] + [behind] * 6))
            rules.append((a, [2 * a % 63] * 8))
            rules.append((a, [(2 * a + 1) % 63] * 7 + [behind]))
        return order(rules)

    def test_all_lead_to_all(self):
        for order in (list, lambda rules: rules[::-1]):
            found = told(32, 63, self.spread(order))
            every = list(range(63))
            self.assertEqual(found, [([0], every, every + [63])] * 32)

    def test_a_long_chain_in_either_order(self):
        rules = []
        for a in range(31):
            rules.extend([(a, [63 + a + 1] * 8), (a, [a] * 8), (a, [63 + a + 1] * 7 + [31 + a]), (a, [])])
        rules.extend([(31, [62] * 8), (31, [])] * 2)
        for ordered in (rules, rules[::-1]):
            found = told(32, 63, ordered)
            self.assertEqual(len(ordered), 128)
            self.assertEqual([answer[0] for answer in found], [[1]] * 32)
            for a in range(32):
                # What begins: the own tokens of all from a on, and the tokens at the ends of those rows.
                begins = set(range(a, 31)) | set(range(31 + a, 62)) | {62}
                self.assertEqual(found[a][1], sorted(begins))
            self.assertEqual(found[0][2], [63])
            self.assertEqual(found[1][2], sorted(set(range(1, 31)) | {31} | set(range(32, 62)) | {62, 63}))

    def test_400_calls_at_the_greatest_size(self):
        rules = self.spread(list)
        questions = [[first, follow, empty][k % 3](k % 32) for k in range(270)]
        found = ask(*(built(32, 63, rules) + questions))
        self.assertEqual(len(found), 400)
        every = list(range(63))
        expected = [[0] + every, [0] + every + [63], [0, 0]]
        self.assertEqual(found[130:], [expected[k % 3] for k in range(270)])

    def test_close_refused_again_and_again(self):
        # The last nonterminal has no rule, so that none leads to tokens, and each is reached late.
        rules = [(a, [63 + a + 1] * 8) for a in range(30, -1, -1)] * 4
        found = ask(*([begin(32, 63)] + [rule(a, row) for a, row in rules] + [close()] * 275))
        self.assertEqual(len(found), 400)
        self.assertEqual(found[125:], [[-6, 0]] * 275)


if __name__ == "__main__":
    unittest.main()
