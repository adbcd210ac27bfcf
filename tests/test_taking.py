"""start, next and expected: a text under way."""

import unittest

from tests.helper import GREATEST, NONE_FITS, NOT_NOW, OUT_OF_RANGE, SEVERAL, SUM, ask, asked, begin, built, choose
from tests.helper import close, conflicts, empty, expected, first, follow, rule, start, take, text

# S -> 0 S 1 | nothing: so many 0, as many 1.
NESTED = (1, 2, ((0, (0, 2, 1)), (0, ())))


class Start(unittest.TestCase):
    def test_while_open(self):
        self.assertEqual(ask(start(), rule(0, [0]), start(), close(), start()), [NOT_NOW, [0, 0], NOT_NOW, [0], [0]])
        self.assertEqual(ask(close(), start(), expected()), [[-6, 0], NOT_NOW, NOT_NOW])

    def test_while_open_with_a_conflict(self):
        found = ask(rule(0, [0]), rule(0, [0]), start(), close(), start())
        self.assertEqual(found[2:], [NOT_NOW, [0], SEVERAL])

    def test_with_a_conflict(self):
        for rules in ([(0, [0]), (0, [0, 2])], [(0, [0]), (0, [3]), (1, [1]), (1, [1, 0])]):
            found = asked(len(rules) // 2, 2, rules, [start(), take(0), expected(), start()])
            self.assertEqual(found, [SEVERAL, NOT_NOW, NOT_NOW, SEVERAL])

    def test_with_a_conflict_at_the_end_alone(self):
        found = asked(1, 1, [(0, []), (0, [])], [conflicts(), start(), take(1), expected()])
        self.assertEqual(found, [[0, 0, 1, 0, 1], SEVERAL, NOT_NOW, NOT_NOW])
        found = asked(2, 1, [(0, [0, 2]), (1, []), (1, [])], [conflicts(), start(), take(0)])
        self.assertEqual(found, [[0, 1, 1, 1, 2], SEVERAL, NOT_NOW])

    def test_a_plain_one(self):
        self.assertEqual(asked(*SUM, [start(), expected()]), [[0], [0, 2, 4]])

    def test_twice(self):
        self.assertEqual(asked(*SUM, [start(), start(), expected(), take(4)]), [[0], [0], [0, 2, 4], [0, 0, 3, 7]])

    def test_in_the_middle_of_a_text(self):
        found = asked(*NESTED, text([0, 0, 1]) + [expected(), start(), expected(), take(1), take(0), take(1), take(2)])
        self.assertEqual(found[3:], [[0, 1], [0, 1], [0], [0, 0, 2], NONE_FITS, [0, 0], [0, 1], [0]])

    def test_after_a_whole_text(self):
        found = asked(*NESTED, text([0, 1, 2]) + text([0, 0, 1, 1, 2]))
        self.assertEqual(found, [[0], [0, 0], [0, 1], [0], [0], [0, 0], [0, 0], [0, 1], [0], [0]])


class Next(unittest.TestCase):
    def test_no_start_yet(self):
        calls = [take(0), take(1), take(2), take(GREATEST)]
        self.assertEqual(ask(*calls), [NOT_NOW] * 4)
        self.assertEqual(asked(*NESTED, calls), [NOT_NOW] * 4)

    def test_after_the_end_was_taken(self):
        found = asked(*NESTED, text([2]) + [take(0), take(2), take(3), take(GREATEST), expected()])
        self.assertEqual(found, [[0], [0, 1]] + [NOT_NOW] * 5)

    def test_after_begin(self):
        found = asked(*NESTED, text([0]) + [begin(1, 2), take(0), take(2), take(3), expected()])
        self.assertEqual(found[2:], [[0]] + [NOT_NOW] * 4)

    def test_a_new_grammar_has_no_text_under_way(self):
        found = asked(*NESTED, text([0]) + built(*NESTED) + [take(1), take(3), expected(), start(), take(1), take(0)])
        self.assertEqual(found[-6:], [NOT_NOW, NOT_NOW, NOT_NOW, [0], NONE_FITS, [0, 0]])

    def test_out_of_range(self):
        for t in (1, 2, 63):
            rules = [(0, [0, t]), (0, [])]
            found = asked(1, t, rules, text([t + 1, GREATEST, 0, t + 1, GREATEST, t, t + 1]))
            self.assertEqual(found, [[0], OUT_OF_RANGE, OUT_OF_RANGE, [0, 0], OUT_OF_RANGE, OUT_OF_RANGE, [0, 1],
                                     NOT_NOW])

    def test_the_nonterminals_symbol_is_out_of_range(self):
        # S, A are written 2, 3: as a token 2 is the end, and 3 is none.
        self.assertEqual(asked(2, 2, [(0, [0, 3]), (1, [1])], text([0, 3, 2])), [[0], [0, 0], OUT_OF_RANGE, NONE_FITS])

    def test_the_rules_from_the_left(self):
        found = asked(*SUM, text([4, 1, 4, 0, 2, 4, 3, 5]))
        self.assertEqual(found, [[0], [0, 0, 3, 7], [0, 4], [0, 7], [0, 5, 1], [0, 3, 6], [0, 0, 3, 7], [0, 5, 2],
                                 [0, 5, 2]])

    def test_a_token_that_needs_no_rule(self):
        self.assertEqual(asked(1, 3, [(0, [2, 0, 1])], text([2, 0, 1, 3])), [[0], [0, 0], [0], [0], [0]])

    def test_through_rules_that_come_to_nothing(self):
        # S -> A B A 2, A -> C C, B -> 0 | nothing, C -> nothing: S, A, B, C are written 3, 4, 5, 6.
        rules = [(3, []), (0, [4, 5, 4, 2]), (2, [0]), (2, []), (1, [6, 6])]
        self.assertEqual(asked(4, 3, rules, text([2, 3])), [[0], [0, 1, 4, 0, 0, 3, 4, 0, 0], [0]])
        self.assertEqual(asked(4, 3, rules, text([0, 2, 3])), [[0], [0, 1, 4, 0, 0, 2], [0, 4, 0, 0], [0]])

    def test_the_end_through_rules_that_come_to_nothing(self):
        # S -> 0 A B, A -> B B, B -> nothing.
        rules = [(0, [0, 2, 3]), (1, [3, 3]), (2, [])]
        self.assertEqual(asked(3, 1, rules, text([0, 1])), [[0], [0, 0], [0, 1, 2, 2, 2]])

    def test_the_symbols_behind_are_kept_in_their_order(self):
        # S -> A 2 3, A -> 0 B 1 , B -> 4 4 5.
        rules = [(0, [7, 2, 3]), (1, [0, 8, 1]), (2, [4, 4, 5])]
        self.assertEqual(asked(3, 6, rules, text([0, 4, 4, 5, 1, 2, 3, 6])),
                         [[0], [0, 0, 1], [0, 2], [0], [0], [0], [0], [0], [0]])

    def test_the_empty_text(self):
        self.assertEqual(asked(1, 1, [(0, [])], text([1])), [[0], [0, 0]])
        self.assertEqual(asked(2, 1, [(0, [2, 2]), (1, [])], text([1])), [[0], [0, 0, 1, 1]])

    def test_a_token_that_can_not_be_taken(self):
        found = asked(*SUM, text([0, 1, 3, 4, 2, 3, 4, 0, 0, 1, 3]))
        self.assertEqual(found, [[0], NONE_FITS, NONE_FITS, NONE_FITS, [0, 0, 3, 7], NONE_FITS, NONE_FITS, NONE_FITS,
                                 [0, 5, 1], NONE_FITS, NONE_FITS, NONE_FITS])

    def test_the_end_that_can_not_be_taken(self):
        found = asked(*NESTED, text([0, 2, 0, 2, 1, 2, 1, 2, 2]))
        self.assertEqual(found, [[0], [0, 0], NONE_FITS, [0, 0], NONE_FITS, [0, 1], NONE_FITS, [0], [0], NOT_NOW])

    def test_where_there_is_a_rule_but_the_token_is_not_behind(self):
        # S -> 0 A 1 | 2 A 3, A -> nothing: both 1 and 3 can follow A, but not at one place.
        rules = [(0, [0, 5, 1]), (0, [2, 5, 3]), (1, [])]
        found = asked(2, 4, rules, [choose(1, 1), choose(1, 3)] + text([0, 3, 4, 1, 4]) + text([2, 1, 4, 3, 4]))
        self.assertEqual(found, [[0, 2], [0, 2], [0], [0, 0], NONE_FITS, NONE_FITS, [0, 2], [0], [0], [0, 1],
                                 NONE_FITS, NONE_FITS, [0, 2], [0]])

    def test_where_there_is_a_rule_for_the_end_but_a_token_is_behind(self):
        # S -> 0 A 1 | 2 A, A -> nothing.
        rules = [(0, [0, 4, 1]), (0, [2, 4]), (1, [])]
        found = asked(2, 3, rules, [choose(1, 3)] + text([0, 3, 1, 3]) + text([2, 1, 3]))
        self.assertEqual(found, [[0, 2], [0], [0, 0], NONE_FITS, [0, 2], [0], [0], [0, 1], NONE_FITS, [0, 2]])

    def test_refused_leaves_the_text_as_it_was(self):
        for taken in ([], [4], [4, 0], [2], [2, 4], [2, 4, 3], [4, 1, 4]):
            plain = asked(*SUM, text(taken) + [expected()])
            can = plain[-1][1:]
            refused = [take(token) for token in range(8) if token not in can] + [take(GREATEST)]
            for token in can:
                found = asked(*SUM, text(taken) + refused + [expected(), take(token)])
                answers = found[len(taken) + 1:]
                self.assertEqual(answers[:-2], [NONE_FITS] * (6 - len(can)) + [OUT_OF_RANGE] * 3)
                self.assertEqual(answers[-2], [0] + can)
                self.assertEqual(answers[-1], asked(*SUM, text(taken) + [take(token)])[-1])
                self.assertEqual(answers[-1][0], 0)


class Expected(unittest.TestCase):
    def sets(self, grammar, tokens):
        """What is expected at the beginning and after each token."""
        calls = [start(), expected()]
        for token in tokens:
            calls.extend([take(token), expected()])
        found = asked(*grammar, calls)
        for answer in found:
            self.assertEqual(answer[0], 0)
        return [answer[1:] for answer in found[1::2]]

    def test_no_text_under_way(self):
        self.assertEqual(ask(expected(), rule(0, []), close(), expected(), start(), expected(), take(1), expected()),
                         [NOT_NOW, [0, 0], [0], NOT_NOW, [0], [0, 1], [0, 0], NOT_NOW])

    def test_at_the_beginning_and_in_the_middle(self):
        self.assertEqual(self.sets(SUM, [2, 4, 1, 4, 3, 0]),
                         [[2, 4], [2, 4], [0, 1, 3], [2, 4], [0, 1, 3], [0, 1, 5], [2, 4]])

    def test_the_end_alone_where_nothing_more_can_come(self):
        self.assertEqual(self.sets((1, 3, [(0, [2, 0, 1])]), [2, 0, 1]), [[2], [0], [1], [3]])

    def test_the_end_alone_where_only_what_comes_to_nothing_is_left(self):
        self.assertEqual(self.sets((2, 1, [(0, [0, 2, 2]), (1, [])]), [0]), [[0], [1]])

    def test_the_empty_text_as_a_sentence(self):
        self.assertEqual(self.sets(NESTED, [0, 1]), [[0, 2], [0, 1], [2]])
        self.assertEqual(self.sets((1, 1, [(0, [])]), []), [[1]])

    def test_what_can_follow_elsewhere_is_not_in_it(self):
        rules = [(0, [0, 5, 1]), (0, [2, 5, 3]), (1, [])]
        self.assertEqual(self.sets((2, 4, rules), [0, 1]), [[0, 2], [1], [4]])
        self.assertEqual(self.sets((2, 4, rules), [2, 3]), [[0, 2], [3], [4]])

    def test_all_tokens_and_the_end(self):
        rules = [(0, [token, 63]) for token in range(63)] + [(0, [])]
        self.assertEqual(self.sets((1, 63, rules), [62, 0]), [list(range(64))] * 3)

    def test_asking_changes_nothing(self):
        calls = text([0]) + [expected()] * 3 + [take(0)] + [expected()] * 3 + [take(1), take(1), take(2)]
        self.assertEqual(asked(*NESTED, calls), [[0], [0, 0]] + [[0, 0, 1]] * 3 + [[0, 0]] + [[0, 0, 1]] * 3 +
                         [[0, 1], [0], [0]])


class BesideAText(unittest.TestCase):
    """The other calls while a text is under way."""

    def test_refused_calls_leave_grammar_and_text_as_they_were(self):
        refused = [begin(0, 1), begin(1, 0), begin(33, 1), begin(1, 64), rule(0, [0]), rule(9, [99]),
                   rule(0, [0] * 300), close(), empty(1), first(1), follow(1), choose(1, 0), choose(0, 3)]
        answers = [OUT_OF_RANGE] * 4 + [NOT_NOW] * 4 + [OUT_OF_RANGE] * 5
        calls = [start()]
        expecting = [[0]]
        for token, answer, can in ((0, [0, 0], [0, 1]), (0, [0, 0], [0, 1]), (1, [0, 1], [1]), (1, [0], [2])):
            calls.extend(refused + [take(token)] + refused + [expected()])
            expecting.extend(answers + [answer] + answers + [[0] + can])
        calls.extend([choose(0, 0), choose(0, 2), first(0), follow(0), empty(0), conflicts(), take(2)])
        expecting.extend([[0, 0], [0, 1], [0, 0], [0, 1, 2], [0, 1], [0], [0]])
        self.assertEqual(asked(*NESTED, calls), expecting)

    def test_questions_leave_the_text_as_it_was(self):
        questions = [empty(0), first(0), follow(0), choose(0, 0), choose(0, 1), conflicts()]
        answers = [[0, 1], [0, 0], [0, 1, 2], [0, 0], [0, 1], [0]]
        calls = [start()] + questions + [take(0)] + questions + [expected(), take(1)] + questions + [take(2)]
        self.assertEqual(asked(*NESTED, calls),
                         [[0]] + answers + [[0, 0]] + answers + [[0, 0, 1], [0, 1]] + answers + [[0]])

    def test_begin_forgets_the_text(self):
        found = asked(*NESTED, text([0]) + [begin(1, 2), expected(), take(1), start(), rule(0, [1]), close(),
                                            expected(), start(), expected(), take(1), take(2)])
        self.assertEqual(found[2:], [[0], NOT_NOW, NOT_NOW, NOT_NOW, [0, 0], [0], NOT_NOW, [0], [0, 1], [0, 0], [0]])


if __name__ == "__main__":
    unittest.main()
