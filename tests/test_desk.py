"""How calls are handed in and answers given back; the new object."""

import contextlib
import io
import unittest

from grammarlook.desk import answers
from tests.helper import GREATEST, NOT_NOW, OUT_OF_RANGE, ask, begin, close, empty, first, follow, rule

# Tokens 0 and 1; nonterminals 0 (written 2) and 1 (written 3): S -> 0 A | A, A -> 1 | nothing.
SMALL = [0, 2, 2, 1, 0, 2, 0, 3, 1, 0, 1, 3, 1, 1, 1, 1, 1, 1, 0, 2]
SMALL_ANSWERS = [1, 0, 2, 0, 0, 2, 0, 1, 2, 0, 2, 2, 0, 3, 1, 0]


class Form(unittest.TestCase):
    def test_each_answer_is_its_length_and_its_numbers(self):
        self.assertEqual(answers([0, 2, 2]), [1, 0])
        self.assertEqual(answers([0, 0, 2]), [1, -1])
        self.assertEqual(answers([1, 0, 0]), [2, 0, 0])
        self.assertEqual(answers([2]), [2, -6, 0])
        self.assertEqual(answers([3, 0]), [1, -3])

    def test_several_calls_in_one_list(self):
        self.assertEqual(answers(SMALL), SMALL_ANSWERS)
        questions = [3, 0, 4, 0, 5, 0, 3, 1, 4, 1, 5, 1, 3, 2]
        told = [2, 0, 1, 3, 0, 0, 1, 2, 0, 2, 2, 0, 1, 2, 0, 1, 2, 0, 2, 1, -1]
        self.assertEqual(answers(SMALL + questions), SMALL_ANSWERS + told)

    def test_a_refusal_is_its_number_alone(self):
        self.assertEqual(answers([1, 1, 1, 0, 0, 33, 64, 4, 0, 2]), [1, -1, 1, -1, 1, -3, 2, -6, 0])

    def test_an_empty_set_is_a_zero_alone(self):
        self.assertEqual(answers([1, 0, 0, 2, 4, 0]), [2, 0, 0, 1, 0, 1, 0])

    def test_a_refused_row_is_passed_over_whole(self):
        row = [2] * 300
        self.assertEqual(answers([1, 0, 300] + row + [1, 0, 0, 2]), [1, -1, 2, 0, 0, 1, 0])
        self.assertEqual(answers([1, 0, 0, 2, 1, 0, 300] + row + [2]), [2, 0, 0, 1, 0, 1, -3, 1, -3])

    def test_answers_are_whole_numbers_in_a_list(self):
        given = answers(SMALL + [3, 0, 3, 1, 4, 0, 5, 0, 2])
        self.assertIs(type(given), list)
        for number in given:
            self.assertIs(type(number), int)

    def test_the_list_handed_in_is_as_it_was(self):
        calls = SMALL + [4, 0, 5, 1]
        before = list(calls)
        answers(calls)
        self.assertEqual(calls, before)

    def test_the_list_handed_in_is_not_changed_for_a_while_either(self):
        class Watched(list):
            def refuse(self, *args, **kwargs):
                raise AssertionError("changed")

            append = extend = insert = pop = remove = clear = sort = reverse = refuse
            __setitem__ = __delitem__ = __iadd__ = __imul__ = refuse

        self.assertEqual(answers(Watched(SMALL)), SMALL_ANSWERS)

    def test_what_is_given_back_is_the_callers_own(self):
        given = answers(SMALL)
        given.append(7)
        self.assertEqual(answers(SMALL), SMALL_ANSWERS)

    def test_lists_one_after_another_give_what_each_gives_alone(self):
        ask(begin(32, 63), rule(31, [94]), rule(0, []))
        self.assertEqual(answers(SMALL), SMALL_ANSWERS)
        self.assertEqual(answers([1, 1, 0, 3, 0, 1, 0, 0]), [1, -1, 1, -3, 2, 0, 0])
        self.assertEqual(answers(SMALL), SMALL_ANSWERS)

    def test_nothing_is_printed(self):
        printed = io.StringIO()
        with contextlib.redirect_stdout(printed), contextlib.redirect_stderr(printed):
            answers(SMALL)
        self.assertEqual(printed.getvalue(), "")

    def test_400_calls_in_one_list(self):
        calls = [begin(2, 2)] + [rule(0, [0, 3]), rule(1, [])] + [close()]
        questions = [empty(0), first(0), follow(0), empty(1), first(1), follow(1)] * 66
        found = ask(*(calls + questions))
        self.assertEqual(len(found), 400)
        self.assertEqual(found[:4], [[0], [0, 0], [0, 1], [0]])
        self.assertEqual(found[4:], [[0, 0], [0, 0], [0, 2], [0, 1], [0], [0, 2]] * 66)

    def test_a_list_of_nearly_31000_numbers(self):
        calls = [rule(0, [0] * 300)] * 102 + [rule(0, [])] * 130 + [close()] + [first(0)]
        found = ask(*calls)
        self.assertEqual(found[:102], [OUT_OF_RANGE] * 102)
        self.assertEqual(found[102:230], [[0, number] for number in range(128)])
        self.assertEqual(found[230:], [[-2], [-2], [0], [0]])


class NewObject(unittest.TestCase):
    def test_it_has_no_rules_and_is_not_closed(self):
        self.assertEqual(ask(close()), [[-6, 0]])
        self.assertEqual(ask(rule(0, [0])), [[0, 0]])

    def test_it_has_one_nonterminal_and_one_token(self):
        self.assertEqual(ask(rule(0, [1]), rule(0, [2]), rule(1, [])), [[0, 0], OUT_OF_RANGE, OUT_OF_RANGE])

    def test_questions_on_it(self):
        for a in (0, 1, GREATEST):
            self.assertEqual(ask(empty(a), first(a), follow(a)), [NOT_NOW] * 3)

    def test_it_can_be_built_and_closed_without_begin(self):
        found = ask(rule(0, [0, 1]), rule(0, []), close(), empty(0), first(0), follow(0))
        self.assertEqual(found, [[0, 0], [0, 1], [0], [0, 1], [0, 0], [0, 1]])


if __name__ == "__main__":
    unittest.main()
