"""begin, rule and close."""

import unittest

from tests.helper import GREATEST, NOT_NOW, OUT_OF_RANGE, TOO_MANY, ask, begin, built, close, empty, first, follow, rule


class Begin(unittest.TestCase):
    def test_how_many_nonterminals(self):
        self.assertEqual(ask(*[begin(n, 1) for n in (0, 1, 32, 33, GREATEST)]), [[-1], [0], [0], [-1], [-1]])

    def test_how_many_tokens(self):
        self.assertEqual(ask(*[begin(1, t) for t in (0, 1, 63, 64, GREATEST)]), [[-1], [0], [0], [-1], [-1]])

    def test_both_out_of_range(self):
        self.assertEqual(ask(begin(0, 0), begin(33, 64), begin(GREATEST, GREATEST)), [[-1]] * 3)

    def test_it_sets_what_is_in_range(self):
        found = ask(begin(32, 63), rule(31, [62, 94]), rule(32, []), rule(0, [95]))
        self.assertEqual(found, [[0], [0, 0], OUT_OF_RANGE, OUT_OF_RANGE])

    def test_nonterminals_and_tokens_are_not_mixed_up(self):
        self.assertEqual(ask(begin(2, 5), rule(2, []), rule(1, []), rule(0, [6]), rule(0, [7])),
                         [[0], OUT_OF_RANGE, [0, 0], [0, 1], OUT_OF_RANGE])

    def test_over_a_grammar_with_rules(self):
        found = ask(begin(1, 1), rule(0, []), begin(1, 1), close(), rule(0, [0]), close(), empty(0))
        self.assertEqual(found, [[0], [0, 0], [0], [-6, 0], [0, 0], [0], [0, 0]])

    def test_over_a_closed_grammar(self):
        found = ask(*(built(1, 1, [(0, [])]) + [begin(2, 2), first(0), rule(1, [0]), close()]))
        self.assertEqual(found, [[0], [0, 0], [0], [0], NOT_NOW, [0, 0], [-6, 0]])

    def test_nothing_of_an_earlier_grammar_is_told_later(self):
        one = built(2, 3, [(0, [4, 0]), (1, [1]), (1, [])])
        two = built(2, 3, [(0, [2, 4]), (1, [2])])
        found = ask(*(one + two + [empty(1), first(0), first(1), follow(0), follow(1)]))
        self.assertEqual(found[-5:], [[0, 0], [0, 2], [0, 2], [0, 3], [0, 3]])

    def test_refused_over_an_open_grammar(self):
        found = ask(begin(2, 2), rule(0, [3]), begin(0, 5), begin(5, 64), rule(2, []), rule(1, [3, 4]), rule(1, [1]),
                    close(), first(0))
        self.assertEqual(found, [[0], [0, 0], [-1], [-1], [-1], [-1], [0, 1], [0], [0, 1]])

    def test_refused_over_a_closed_grammar(self):
        found = ask(*(built(1, 2, [(0, [1])]) + [begin(33, 1), close(), first(0), follow(0), empty(0), empty(1)]))
        self.assertEqual(found[3:], [[-1], NOT_NOW, [0, 1], [0, 2], [0, 0], [-1]])

    def test_refused_on_a_new_object(self):
        found = ask(begin(0, 0), rule(0, [1]), rule(0, [2]), rule(1, []))
        self.assertEqual(found, [[-1], [0, 0], OUT_OF_RANGE, OUT_OF_RANGE])


class Rule(unittest.TestCase):
    def test_numbers_from_0_on_whatever_the_nonterminal(self):
        found = ask(begin(3, 2), rule(2, [0]), rule(0, [4]), rule(1, []), rule(0, [1]))
        self.assertEqual(found, [[0], [0, 0], [0, 1], [0, 2], [0, 3]])

    def test_how_many_symbols(self):
        found = ask(begin(1, 1), *[rule(0, [0] * length) for length in (0, 8, 9, 300)])
        self.assertEqual(found, [[0], [0, 0], [0, 1], OUT_OF_RANGE, OUT_OF_RANGE])

    def test_the_eighth_symbol_counts(self):
        found = ask(*(built(2, 1, [(0, [0] * 7 + [2]), (1, [])]) + [follow(1)]))
        self.assertEqual(found[-2:], [[0], [0, 1]])

    def test_the_last_symbol_and_one_behind(self):
        for n, t in ((1, 1), (3, 4), (32, 63)):
            found = ask(begin(n, t), rule(0, [t + n - 1]), rule(0, [t + n]), rule(0, [GREATEST]))
            self.assertEqual(found, [[0], [0, 0], OUT_OF_RANGE, OUT_OF_RANGE])

    def test_a_symbol_out_of_range_at_any_place(self):
        for place in range(8):
            row = [0] * 8
            row[place] = 4
            self.assertEqual(ask(begin(2, 2), rule(0, row)), [[0], OUT_OF_RANGE])

    def test_the_last_nonterminal_and_one_behind(self):
        for n in (1, 3, 32):
            found = ask(begin(n, 5), rule(n - 1, []), rule(n, []), rule(GREATEST, []))
            self.assertEqual(found, [[0], [0, 0], OUT_OF_RANGE, OUT_OF_RANGE])

    def test_two_rules_alike(self):
        found = ask(begin(1, 1), rule(0, [0]), rule(0, [0]), close(), first(0))
        self.assertEqual(found, [[0], [0, 0], [0, 1], [0], [0, 0]])

    def test_the_128th_and_the_129th(self):
        found = ask(*([begin(1, 1)] + [rule(0, [0])] * 130))
        self.assertEqual(found[1:129], [[0, number] for number in range(128)])
        self.assertEqual(found[129:], [TOO_MANY, TOO_MANY])

    def test_refused_rules_take_no_number(self):
        found = ask(begin(1, 1), rule(0, []), rule(1, []), rule(0, [2]), rule(0, [0] * 9), rule(0, []))
        self.assertEqual(found, [[0], [0, 0], [-1], [-1], [-1], [0, 1]])

    def test_closed_ahead_of_out_of_range(self):
        calls = built(1, 1, [(0, [])]) + [rule(0, []), rule(1, []), rule(0, [2]), rule(0, [0] * 9)]
        self.assertEqual(ask(*calls)[3:], [NOT_NOW] * 4)

    def test_closed_ahead_of_full(self):
        self.assertEqual(ask(*([rule(0, [])] * 128 + [close(), rule(0, [])]))[128:], [[0], NOT_NOW])

    def test_out_of_range_ahead_of_full(self):
        calls = [rule(0, [])] * 128 + [rule(1, []), rule(0, [2]), rule(0, [0] * 9), rule(0, [])]
        self.assertEqual(ask(*calls)[128:], [[-1], [-1], [-1], TOO_MANY])

    def test_a_rule_out_of_range_leaves_all_as_it_was(self):
        calls = [begin(2, 2), rule(0, [3]), rule(2, [0]), rule(1, [0, 4]), rule(1, [0] * 9), close()]
        self.assertEqual(ask(*calls)[-1], [-6, 0])
        found = ask(*(calls + [rule(1, [1]), close(), empty(0), first(0), follow(1)]))
        self.assertEqual(found[-5:], [[0, 1], [0], [0, 0], [0, 1], [0, 2]])

    def test_the_129th_leaves_all_as_it_was(self):
        found = ask(*([rule(0, [0])] * 128 + [rule(0, []), close(), empty(0)]))
        self.assertEqual(found[128:], [TOO_MANY, [0], [0, 0]])

    def test_a_rule_of_a_closed_grammar_leaves_all_as_it_was(self):
        found = ask(*(built(1, 2, [(0, [0])]) + [rule(0, [1]), rule(0, []), empty(0), first(0), follow(0), close()]))
        self.assertEqual(found[3:], [NOT_NOW, NOT_NOW, [0, 0], [0, 0], [0, 2], NOT_NOW])


def closing(n, t, rules):
    return ask(*built(n, t, rules))[-1]


class Close(unittest.TestCase):
    def test_a_start_that_leads_to_no_row_of_tokens(self):
        self.assertEqual(closing(1, 1, []), [-6, 0])
        self.assertEqual(closing(1, 1, [(0, [1])]), [-6, 0])
        self.assertEqual(closing(1, 1, [(0, [0, 1])]), [-6, 0])

    def test_the_empty_row_counts_as_a_row_of_tokens(self):
        self.assertEqual(closing(1, 1, [(0, [])]), [0])
        self.assertEqual(closing(2, 1, [(0, [2, 2]), (1, [])]), [0])

    def test_one_without_rules(self):
        self.assertEqual(closing(2, 1, [(0, [0]), (0, [2])]), [-6, 1])

    def test_ones_that_lead_only_around(self):
        self.assertEqual(closing(3, 1, [(0, [0]), (0, [2]), (1, [3]), (2, [2, 0])]), [-6, 1])
        self.assertEqual(closing(3, 1, [(0, [0]), (0, [2]), (1, [3]), (2, [2, 0]), (2, [])]), [0])

    def test_one_that_the_start_does_not_lead_to(self):
        self.assertEqual(closing(2, 1, [(0, [0]), (1, [0])]), [-6, 1])
        self.assertEqual(closing(2, 1, [(0, [0]), (1, [1, 0]), (1, [])]), [-6, 1])
        self.assertEqual(closing(3, 1, [(0, [0]), (1, [3]), (2, [2]), (1, []), (2, [])]), [-6, 1])

    def test_reached_through_others_against_their_order(self):
        self.assertEqual(closing(4, 1, [(1, [0]), (2, [2]), (3, [3]), (0, [4])]), [0])
        self.assertEqual(closing(4, 1, [(0, [2]), (1, [3]), (2, [4]), (3, [0])]), [0])

    def test_reached_only_beside_one_that_leads_to_no_tokens(self):
        # 1 leads to tokens, and the start to a row in which 1 stands: only 2 is useless.
        self.assertEqual(closing(3, 1, [(0, [0]), (0, [3, 2]), (1, [0]), (2, [3])]), [-6, 2])
        self.assertEqual(closing(3, 1, [(0, [0]), (0, [2, 3]), (1, []), (2, [0, 3])]), [-6, 2])

    def test_reached_only_through_one_that_leads_to_no_tokens(self):
        self.assertEqual(closing(3, 1, [(0, [0]), (0, [3]), (1, [0]), (2, [3, 2])]), [-6, 2])

    def test_the_least_of_several(self):
        self.assertEqual(closing(5, 1, [(0, [0]), (0, [2]), (1, []), (3, [5])]), [-6, 2])
        self.assertEqual(closing(4, 1, [(0, [0]), (0, [3]), (3, []), (1, [])]), [-6, 1])
        self.assertEqual(closing(32, 63, []), [-6, 0])
        self.assertEqual(closing(32, 63, [(0, [])]), [-6, 1])

    def test_the_last_of_32(self):
        chain = [(a, [63 + a + 1]) for a in range(31)]
        self.assertEqual(closing(32, 63, chain + [(31, [94])]), [-6, 0])
        self.assertEqual(closing(32, 63, chain + [(a, []) for a in range(31)]), [-6, 31])
        self.assertEqual(closing(32, 63, chain + [(31, [])]), [0])

    def test_a_refused_close_leaves_the_grammar_open(self):
        found = ask(begin(2, 2), rule(0, [3, 0]), close(), empty(0), first(2), rule(1, [1]), close(), first(0), close())
        self.assertEqual(found, [[0], [0, 0], [-6, 0], NOT_NOW, NOT_NOW, [0, 1], [0], [0, 1], NOT_NOW])

    def test_twice(self):
        self.assertEqual(ask(rule(0, []), close(), close(), empty(0)), [[0, 0], [0], NOT_NOW, [0, 1]])
        self.assertEqual(ask(close(), close()), [[-6, 0], [-6, 0]])


if __name__ == "__main__":
    unittest.main()
