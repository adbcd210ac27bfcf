"""next refused with -2: more than 512 rules, or more than 512 symbols still to come."""

import unittest

from tests.helper import NONE_FITS, NOT_NOW, OUT_OF_RANGE, TOO_MANY, asked, conflicts, expected, soon, start, take, text

T = 4
S = T

# S -> 0 S 3 3 3 3 3 3 | 1 S 3 | 2 S | nothing: each 0 brings six symbols more, each 1 one, each 2 none, so that a text
# can be made to have any number of symbols still to come.
GROWING = (1, T, ((0, (0, S) + (3,) * 6), (0, (1, S, 3)), (0, (2, S)), (0, ())))


def halving(count):
    """Nonterminals 1 to count: each is rewritten into the next twice, the last into nothing.

    Nonterminal a comes to nothing by 2 ** (count + 1 - a) - 1 rules.
    """
    return [(a, [T + a + 1] * 2) for a in range(1, count)] + [(count, [])]


def by_rules(number):
    """The symbols of a row, of nonterminals of halving(9), that comes to nothing by so many rules."""
    row = []
    for a in range(1, 10):
        cost = 2 ** (10 - a) - 1
        while number >= cost:
            row.append(T + a)
            number -= cost
    return row


def chain(times, last):
    """32 nonterminals: each is rewritten into the next so many times, the first with a row behind."""
    return [(a, [T + a + 1] * times + (last if a == 0 else [])) for a in range(31)] + [(31, [])]


def answer_lengths(found):
    return [len(answer) - 1 for answer in found]


class Rules(unittest.TestCase):
    """One halving(9) and a start that makes a row of it."""

    def asked(self, row, calls):
        self.assertLessEqual(len(row), 8)
        return asked(10, T, halving(9) + [(0, row)], calls)

    def test_512_are_told(self):
        found = self.asked(by_rules(511) + [0, 1], text([0, 1, T]))
        self.assertEqual([answer[0] for answer in found], [0, 0, 0, 0])
        self.assertEqual(answer_lengths(found), [0, 512, 0, 0])
        self.assertEqual(found[1][1:12], [9, 0, 1, 2, 3, 4, 5, 6, 7, 8, 8])

    def test_513_are_refused(self):
        self.assertEqual(self.asked(by_rules(512) + [0, 1], text([0]))[1], TOO_MANY)
        for number in (513, 700, 1022):
            self.assertEqual(self.asked(by_rules(number) + [0, 1], text([0]))[1], TOO_MANY)

    def test_512_for_the_end(self):
        found = self.asked(by_rules(511), text([T]) + [expected()])
        self.assertEqual(answer_lengths(found), [0, 512, 0])
        self.assertEqual(found[1][0], 0)
        self.assertEqual(found[2], NOT_NOW)

    def test_513_for_the_end(self):
        found = self.asked(by_rules(512), text([T]) + [expected(), take(T), take(0), take(T + 1), expected()])
        self.assertEqual(found, [[0], TOO_MANY, [0, T], TOO_MANY, NONE_FITS, OUT_OF_RANGE, [0, T]])

    def test_512_behind_a_token(self):
        found = self.asked([0] + by_rules(511) + [1], text([0, 1, T]))
        self.assertEqual(answer_lengths(found), [0, 1, 511, 0])
        found = self.asked([0] + by_rules(512) + [1], text([0, 1, T]))
        self.assertEqual(answer_lengths(found), [0, 1, 512, 0])
        found = self.asked([0] + by_rules(513) + [1], text([0, 1, 1, T]))
        self.assertEqual(found, [[0], [0, 9], TOO_MANY, TOO_MANY, NONE_FITS])

    def test_each_token_has_its_own_512(self):
        found = self.asked([0] + by_rules(512) + [1] + by_rules(512), text([0, 1, T]))
        self.assertEqual(answer_lengths(found), [0, 1, 512, 512])
        found = self.asked([0] + by_rules(512) + [1] + by_rules(513), text([0, 1, T]))
        self.assertEqual(answer_lengths(found)[:3], [0, 1, 512])
        self.assertEqual(found[3], TOO_MANY)

    def test_refused_leaves_the_text_as_it_was(self):
        # S -> 0 A | 1, A -> (513 rules) 2 | 3: behind 0 the token 2 is refused with -2, and 3 is taken.
        rules = halving(9) + [(0, [0, T + 10]), (10, by_rules(513) + [2]), (10, [3]), (0, [1])]
        found = asked(11, T, rules, text([0, 2]) + [expected(), take(2), take(0), take(T + 1), expected(), take(3),
                                                    expected(), take(T)])
        self.assertEqual(found, [[0], [0, 9], TOO_MANY, [0, 2, 3], TOO_MANY, NONE_FITS, OUT_OF_RANGE, [0, 2, 3],
                                 [0, 11], [0, T], [0]])


class Symbols(unittest.TestCase):
    def test_512_stand_and_513_are_refused(self):
        found = asked(*GROWING, text([0] * 85 + [1] + [1, 0, 2, 1]) + [expected()])
        self.assertEqual(found[1:86], [[0, 0]] * 85)
        self.assertEqual(found[86:], [[0, 1], TOO_MANY, TOO_MANY, [0, 2], TOO_MANY, [0, 0, 1, 2, 3]])

    def test_more_than_one_beyond(self):
        found = asked(*GROWING, text([0] * 85 + [0, 1]))
        self.assertEqual(found[86:], [TOO_MANY, [0, 1]])
        found = asked(*GROWING, text([0] * 84 + [1] * 6 + [0, 1]))
        self.assertEqual(found[85:], [[0, 1]] * 6 + [TOO_MANY, [0, 1]])

    def test_what_is_refused_is_taken_once_there_is_room(self):
        # S -> 0 S 1 1 1 1 1 S | 2 | 3 S 1: behind the 1 comes S again.
        rules = [(0, (0, S, 1, 1, 1, 1, 1, S)), (0, (2,)), (0, (3, S, 1))]
        found = asked(1, T, rules, text([0] * 85 + [3, 3, 2, 1, 1, 1, 1, 1, 1, 0, 3]) + [expected()])
        self.assertEqual(found[1:86], [[0, 0]] * 85)
        self.assertEqual(found[86:], [[0, 2], TOO_MANY, [0, 1]] + [[0]] * 6 + [[0, 0], [0, 2], [0, 0, 2, 3]])

    def test_refused_leaves_the_text_as_it_was(self):
        tokens = [0] * 85 + [1]
        found = asked(*GROWING, text(tokens) + [take(0), take(1), take(T), take(T + 1), expected()] +
                      [take(3)] * 200)
        self.assertEqual(found[87:92], [TOO_MANY, TOO_MANY, NONE_FITS, OUT_OF_RANGE, [0, 0, 1, 2, 3]])
        self.assertEqual(found[92:], [[0, 3]] + [[0]] * 199)

    def test_only_what_is_still_to_come_afterwards_counts(self):
        # S -> 0 S 3 3 3 3 3 3 | 1 S 3 | E E E E E E 2 S | nothing, E -> nothing: 2 has 519 symbols underway.
        rules = [(0, (0, S) + (3,) * 6), (0, (1, S, 3)), (0, (S + 1,) * 6 + (2, S)), (0, ()), (1, ())]
        found = asked(2, T, rules, text([0] * 85 + [1, 2, 1, 2, 3]))
        self.assertEqual(found[86:], [[0, 1], [0, 2] + [4] * 6, TOO_MANY, [0, 2] + [4] * 6, [0, 3]])

    def test_by_many_rules_for_one_token(self):
        # S -> 2 S 3 3 3 3 3 3 | A 1 1 1 1 1 1 1, A -> B 1 1 1 1 1 1 1 and so on: 0 leaves 31 times 7 tokens, and those
        # that stood behind S.
        rules = [(0, [T + 1] + [1] * 7), (0, [2, S] + [3] * 6)]
        rules += [(a, [T + a + 1] + [1] * 7) for a in range(1, 31)] + [(31, [0])]
        found = asked(32, T, rules, text([2] * 49 + [0]))
        self.assertLessEqual(6 * 49 + 7 * 31, 512)
        self.assertEqual(answer_lengths(found), [0] + [1] * 49 + [32])
        found = asked(32, T, rules, text([2] * 50 + [0, 2]))
        self.assertGreater(6 * 50 + 7 * 31, 512)
        self.assertEqual(found[-2:], [TOO_MANY, [0, 1]])

    def test_512_rules_and_512_symbols_at_once(self):
        # GROWING, but 2 stands behind what comes to nothing.
        for number in (511, 512):
            rules = halving(9) + [(0, [0, S] + [3] * 6), (0, [1, S, 3]), (0, by_rules(number) + [2, S]), (0, [])]
            found = asked(10, T, rules, text([0] * 85 + [1, 2, 1, 2]))
            self.assertEqual(answer_lengths(found[-3:]), [512, 0, 512] if number == 511 else [0, 0, 0])
            self.assertEqual([answer[0] for answer in found[-3:]], [0, -2, 0] if number == 511 else [-2, -2, -2])

    def test_the_end_of_a_row_of_512(self):
        # S -> 0 S and six E | 1 S E | nothing, E -> nothing: the end takes one rule for each symbol.
        rules = [(0, [0, S] + [S + 1] * 6), (0, [1, S, S + 1]), (0, []), (1, [])]
        found = asked(2, T, rules, text([0] * 85 + [1, 1, T, T]))
        self.assertEqual(found[87:], [TOO_MANY, [0, 2] + [3] * 511, NOT_NOW])

    def test_the_end_of_a_row_by_more_than_512_rules(self):
        # As above, but each E takes two rules: S and 256 E take 513.
        rules = [(0, [0, S] + [S + 1] * 6), (0, [1, S, S + 1]), (0, []), (1, [S + 2]), (2, [])]
        found = asked(3, T, rules, text([0] * 42 + [1, 1, 1, T]))
        self.assertEqual(found[-1], [0, 2] + [3, 4] * 255)
        found = asked(3, T, rules, text([0] * 42 + [1, 1, 1, 1, T, T]) + [expected(), take(2), take(0)])
        self.assertEqual(found[-5:], [TOO_MANY, TOO_MANY, [0, 0, 1, T], NONE_FITS, [0, 0]])


class WithoutMeasure(unittest.TestCase):
    """32 nonterminals, each rewritten into the next twice or eight times: more rules than could ever be told."""

    def test_the_end(self):
        for times in (2, 8):
            with self.subTest(times=times), soon():
                found = asked(32, T, chain(times, []), [conflicts()] + text([T]) + [expected(), take(0), take(T)])
                self.assertEqual(found, [[0], [0], TOO_MANY, [0, T], NONE_FITS, TOO_MANY])

    def test_a_token_behind(self):
        for times in (2, 7):
            with self.subTest(times=times), soon():
                found = asked(32, T, chain(times, [1]), [conflicts()] + text([1]) + [expected(), take(1)])
                self.assertEqual(found, [[0], [0], TOO_MANY, [0, 1], TOO_MANY])

    def test_a_token_and_the_end_that_are_not_behind(self):
        for times in (2, 7):
            with self.subTest(times=times), soon():
                found = asked(32, T, chain(times, [1]), text([0, 2, 3, T]) + [expected()])
                self.assertEqual(found, [[0]] + [NONE_FITS] * 4 + [[0, 1]])

    def around(self, times):
        # S -> 0 A 1 | 2 A 3 | 3 A, where A comes to nothing without measure: 1, 3 and the end can all follow A.
        rules = [(0, [0, T + 1, 1]), (0, [2, T + 1, 3]), (0, [3, T + 1])]
        return rules + [(a, [T + a + 1] * times) for a in range(1, 31)] + [(31, [])]

    def test_a_token_that_can_follow_but_not_here(self):
        for times in (2, 8):
            with self.subTest(times=times), soon():
                found = asked(32, T, self.around(times), [conflicts()] + text([0, 3, T, 0, 2, 1]) + [expected()])
                self.assertEqual(found, [[0], [0], [0, 0]] + [NONE_FITS] * 4 + [TOO_MANY, [0, 1]])
                found = asked(32, T, self.around(times), text([2, 1, T, 0, 2, 3]) + [expected()])
                self.assertEqual(found, [[0], [0, 1]] + [NONE_FITS] * 4 + [TOO_MANY, [0, 3]])
                found = asked(32, T, self.around(times), text([3, 0, 1, 2, 3, T]) + [expected()])
                self.assertEqual(found, [[0], [0, 2]] + [NONE_FITS] * 4 + [TOO_MANY, [0, T]])

    def test_a_text_goes_on_beside_it(self):
        # S -> 0 A | nothing, A -> B 1 | 2 S, where B comes to nothing without measure.
        rules = [(0, [0, T + 1]), (0, []), (1, [T + 2, 1]), (1, [2, T])]
        rules += [(a, [T + a + 1] * 8) for a in range(2, 31)] + [(31, [])]
        with soon():
            found = asked(32, T, rules, text([0, 1, 2, 0, 1, 3, 2, T]) + [expected()])
        self.assertEqual(found, [[0], [0, 0], TOO_MANY, [0, 3], [0, 0], TOO_MANY, NONE_FITS, [0, 3], [0, 1], NOT_NOW])

    def test_a_whole_list_of_it(self):
        with soon():
            found = asked(32, T, chain(8, []), [start()] + [take(T), take(0), expected()] * 120)
        self.assertEqual(found, [[0]] + [TOO_MANY, NONE_FITS, [0, T]] * 120)

    def test_a_row_of_512_of_it(self):
        # S -> 0 S and six A | 1 S A | nothing, where A comes to nothing without measure: 512 symbols to come.
        rules = [(0, [0, S] + [S + 1] * 6), (0, [1, S, S + 1]), (0, [])]
        rules += [(a, [T + a + 1] * 8) for a in range(1, 31)] + [(31, [])]
        with soon():
            found = asked(32, T, rules, text([0] * 85 + [1]) + [take(T), take(2), expected(), take(1)] * 60)
        self.assertEqual(found[87:], [TOO_MANY, NONE_FITS, [0, 0, 1, T], TOO_MANY] * 60)


if __name__ == "__main__":
    unittest.main()
