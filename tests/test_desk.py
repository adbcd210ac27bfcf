"""How calls are handed in and answers given back; the new object."""

import contextlib
import io
import random
import unittest

from grammarlook.desk import answers
from tests.helper import GREATEST, NONE_FITS, NOT_NOW, OUT_OF_RANGE, SEVERAL, SUM, ask, begin, built, choose, close
from tests.helper import conflicts, empty, expected, first, follow, rule, soon, start, take, take_apart, text

# Tokens 0 and 1; nonterminals 0 (written 2) and 1 (written 3): S -> 0 A | A, A -> 1 | nothing.
SMALL = [0, 2, 2, 1, 0, 2, 0, 3, 1, 0, 1, 3, 1, 1, 1, 1, 1, 1, 0, 2]
SMALL_ANSWERS = [1, 0, 2, 0, 0, 2, 0, 1, 2, 0, 2, 2, 0, 3, 1, 0]
# choose, conflicts, start, expected, next 0, next 1, next 0, next 3, the end.
SMALL_TEXT = [6, 0, 0, 6, 1, 2, 7, 8, 10, 9, 0, 9, 1, 9, 0, 9, 3, 9, 2]
SMALL_TEXT_ANSWERS = [2, 0, 0, 2, 0, 3, 1, 0, 1, 0, 4, 0, 0, 1, 2, 2, 0, 0, 2, 0, 2, 1, -4, 1, -1, 1, 0]


class Form(unittest.TestCase):
    def test_each_answer_is_its_length_and_its_numbers(self):
        self.assertEqual(answers([0, 2, 2]), [1, 0])
        self.assertEqual(answers([0, 0, 2]), [1, -1])
        self.assertEqual(answers([1, 0, 0]), [2, 0, 0])
        self.assertEqual(answers([2]), [2, -6, 0])
        self.assertEqual(answers([3, 0]), [1, -3])

    def test_several_calls_in_one_list(self):
        self.assertEqual(answers(SMALL), SMALL_ANSWERS)
        questions = [3, 0, 4, 0, 5, 0, 3, 1, 4, 1, 5, 1, 3, 2]
        told = [2, 0, 1, 3, 0, 0, 1, 2, 0, 2, 2, 0, 1, 2, 0, 1, 2, 0, 2, 1, -1]
        self.assertEqual(answers(SMALL + questions), SMALL_ANSWERS + told)

    def test_a_text_in_one_list(self):
        self.assertEqual(answers(SMALL + SMALL_TEXT), SMALL_ANSWERS + SMALL_TEXT_ANSWERS)

    def test_a_conflict_is_four_numbers(self):
        calls = [1, 0, 1, 0, 1, 0, 0, 1, 0, 0, 1, 0, 1, 0, 2, 7, 6, 0, 0, 8]
        told = [2, 0, 0, 2, 0, 1, 2, 0, 2, 2, 0, 3, 1, 0, 9, 0, 0, 0, 0, 3, 0, 1, 1, 2, 1, -5, 1, -5]
        self.assertEqual(answers(calls), told)

    def test_a_refusal_is_its_number_alone(self):
        self.assertEqual(answers([1, 1, 1, 0, 0, 33, 64, 4, 0, 2]), [1, -1, 1, -1, 1, -3, 2, -6, 0])
        self.assertEqual(answers([6, 0, 0, 7, 8, 9, 0, 10]), [1, -3] * 5)

    def test_an_empty_set_is_a_zero_alone(self):
        self.assertEqual(answers([1, 0, 0, 2, 4, 0]), [2, 0, 0, 1, 0, 1, 0])

    def test_a_refused_row_is_passed_over_whole(self):
        row = [2] * 300
        self.assertEqual(answers([1, 0, 300] + row + [1, 0, 0, 2]), [1, -1, 2, 0, 0, 1, 0])
        self.assertEqual(answers([1, 0, 0, 2, 1, 0, 300] + row + [2]), [2, 0, 0, 1, 0, 1, -3, 1, -3])

    def test_answers_are_whole_numbers_in_a_list(self):
        given = answers(SMALL + [3, 0, 3, 1, 4, 0, 5, 0, 2] + SMALL_TEXT)
        self.assertIs(type(given), list)
        for number in given:
            self.assertIs(type(number), int)

    def test_the_list_handed_in_is_as_it_was(self):
        calls = SMALL + [4, 0, 5, 1] + SMALL_TEXT
        before = list(calls)
        answers(calls)
        self.assertEqual(calls, before)

    def test_the_list_handed_in_is_not_changed_for_a_while_either(self):
        class Watched(list):
            def refuse(self, *args, **kwargs):
                raise AssertionError("changed")

            append = extend = insert = pop = remove = clear = sort = reverse = refuse
            __setitem__ = __delitem__ = __iadd__ = __imul__ = refuse

        self.assertEqual(answers(Watched(SMALL + SMALL_TEXT)), SMALL_ANSWERS + SMALL_TEXT_ANSWERS)

    def test_what_is_given_back_is_the_callers_own(self):
        given = answers(SMALL)
        given.append(7)
        self.assertEqual(answers(SMALL), SMALL_ANSWERS)

    def test_lists_one_after_another_give_what_each_gives_alone(self):
        ask(begin(32, 63), rule(31, [94]), rule(0, []))
        self.assertEqual(answers(SMALL), SMALL_ANSWERS)
        self.assertEqual(answers([1, 1, 0, 3, 0, 1, 0, 0]), [1, -1, 1, -3, 2, 0, 0])
        self.assertEqual(answers(SMALL), SMALL_ANSWERS)
        self.assertEqual(answers(SMALL + [8, 9, 0]), SMALL_ANSWERS + [1, 0, 2, 0, 0])
        self.assertEqual(answers([9, 1, 10, 7]), [1, -3] * 3)
        self.assertEqual(answers(SMALL + SMALL_TEXT), SMALL_ANSWERS + SMALL_TEXT_ANSWERS)

    def test_nothing_is_printed(self):
        printed = io.StringIO()
        with contextlib.redirect_stdout(printed), contextlib.redirect_stderr(printed):
            answers(SMALL + SMALL_TEXT)
        self.assertEqual(printed.getvalue(), "")

    def test_400_calls_in_one_list(self):
        calls = [begin(2, 2)] + [rule(0, [0, 3]), rule(1, [])] + [close()]
        questions = [empty(0), first(0), follow(0), empty(1), first(1), follow(1)] * 66
        found = ask(*(calls + questions))
        self.assertEqual(len(found), 400)
        self.assertEqual(found[:4], [[0], [0, 0], [0, 1], [0]])
        self.assertEqual(found[4:], [[0, 0], [0, 0], [0, 2], [0, 1], [0], [0, 2]] * 66)

    def test_400_calls_with_several_grammars_and_texts(self):
        summing = built(*SUM) + text([4, 0, 2, 4, 1]) + [expected(), take(5)]
        summed = [[0]] + [[0, number] for number in range(8)] + [[0], [0], [0, 0, 3, 7], [0, 5, 1], [0, 3, 6],
                                                                 [0, 0, 3, 7], [0, 4], [0, 2, 4], NONE_FITS]
        nesting = built(1, 2, [(0, [0, 2, 1]), (0, [])]) + text([0, 0, 1, 1, 2]) + text([0, 2, 1, 1, 2])
        nested = [[0], [0, 0], [0, 1], [0], [0], [0, 0], [0, 0], [0, 1], [0], [0], [0], [0, 0], NONE_FITS, [0, 1],
                  NONE_FITS, [0]]
        clashing = built(1, 1, [(0, [0]), (0, [0])]) + [start(), take(0), conflicts(), choose(0, 0)]
        clashed = [[0], [0, 0], [0, 1], [0], SEVERAL, NOT_NOW, [0, 0, 0, 0, 1], SEVERAL]
        with soon():
            found = ask(*((summing + nesting + clashing) * 9 + summing + [expected(), begin(0, 0), take(4), start()]))
        self.assertEqual(len(found), 400)
        self.assertEqual(found, (summed + nested + clashed) * 9 + summed + [[0, 2, 4], OUT_OF_RANGE, [0, 7], [0]])

    def any_call(self, source):
        """A call whatever, most often with small numbers."""
        def number():
            return source.choice((0, 0, 0, 1, 1, 2, 3, source.randrange(100), GREATEST))

        call = source.choice((0, 1, 1, 1, 1, 2, 2, 2, 3, 4, 5, 6, 7, 8, 8, 8, 9, 9, 9, 9, 10))
        if call == 0:
            return begin(source.choice((1, 1, 2, number())), source.choice((1, 2, 3, number())))
        if call == 1:
            return rule(number(), [number() for place in range(source.choice((0, 0, 1, 2, 3, 9)))])
        if call == 6:
            return choose(number(), number())
        if call in (3, 4, 5, 9):
            return [call, number()]
        return [call]

    def test_any_calls_in_any_order_are_answered(self):
        source = random.Random(11)
        seen = set()
        for turn in range(150):
            calls = [self.any_call(source) for place in range(source.randrange(1, 401))]
            together = [number for call in calls for number in call]
            for call, answer in zip(calls, take_apart(answers(together), len(calls))):
                self.assertIn(answer[0], (0, -1, -2, -3, -4, -5, -6))
                self.assertTrue(answer[0] == 0 or len(answer) == (2 if answer[0] == -6 else 1))
                seen.add((call[0], answer[0]))
        for call, refusals in enumerate(([-1], [-3, -1], [-3, -6], [-3, -1], [-3, -1], [-3, -1], [-3, -1, -4, -5], [-3],
                                         [-3, -5], [-3, -1, -4], [-3])):
            for answer in [0] + refusals:
                self.assertIn((call, answer), seen)

    def test_a_list_of_nearly_31000_numbers(self):
        calls = [rule(0, [0] * 300)] * 101 + [rule(0, [])] * 130 + [close()] + [first(0)]
        found = ask(*calls)
        self.assertEqual(found[:101], [OUT_OF_RANGE] * 101)
        self.assertEqual(found[101:229], [[0, number] for number in range(128)])
        self.assertEqual(found[229:], [[-2], [-2], [0], [0]])


class NewObject(unittest.TestCase):
    def test_it_has_no_rules_and_is_not_closed(self):
        self.assertEqual(ask(close()), [[-6, 0]])
        self.assertEqual(ask(rule(0, [0])), [[0, 0]])

    def test_it_has_one_nonterminal_and_one_token(self):
        self.assertEqual(ask(rule(0, [1]), rule(0, [2]), rule(1, [])), [[0, 0], OUT_OF_RANGE, OUT_OF_RANGE])

    def test_questions_on_it(self):
        for a in (0, 1, GREATEST):
            self.assertEqual(ask(empty(a), first(a), follow(a)), [NOT_NOW] * 3)

    def test_it_has_no_text_under_way(self):
        self.assertEqual(ask(take(0), take(1), take(2), expected(), start(), conflicts(), choose(0, 0), choose(1, 2)),
                         [NOT_NOW] * 8)

    def test_it_can_be_built_and_closed_without_begin(self):
        found = ask(rule(0, [0, 1]), rule(0, []), close(), empty(0), first(0), follow(0))
        self.assertEqual(found, [[0, 0], [0, 1], [0], [0, 1], [0, 0], [0, 1]])


if __name__ == "__main__":
    unittest.main()
