import builtins
import contextlib
import copy
import io
import unittest
from unittest import mock

from ruleexceptions.code import answers
from tests.helper import BEGINS, BOTTOM, TOP, answered, fact, first, joined, order, parted, rule, unfact

EVERY_CALL = [
    order(2, 0, 1), order(0, 0, 1), fact(3), fact(3), fact(0), unfact(3), unfact(3),
    rule(5, (1, -2)), rule(-5, (1, 1)), rule(-5), first(0, 1), first(1, 0), first(2, 2), BEGINS, fact(-20),
]
EVERY_ANSWER = [0, -1, 1, -3, -1, 0, -2, 0, -1, 1, 0, -3, -2, 0, 1]

LATER_CALLS = [
    [6, 1], [7, -1], [8, 0, 1], [9], [10, 5], [11, 1, 0], [11, 1, 3, 2, 2, 3],
    [6, TOP], [7, BOTTOM], [8, TOP, TOP], [10, BOTTOM], [11, TOP, 10, 9, 9, 9, 9, 9, 9, 9, 9, 9, 9],
]


def refuse(self, *args, **kwargs):
    raise AssertionError("the list handed in is changed")


class Unchanging(list):
    __setitem__ = __delitem__ = __iadd__ = __imul__ = refuse
    append = clear = extend = insert = pop = remove = reverse = sort = refuse


class Form(unittest.TestCase):
    def test_each_answer_has_its_count_ahead(self):
        self.assertEqual(answers([0]), [1, 0])
        self.assertEqual(answers([2, 7, 2, 8, 3, 7, 0]), [1, 1, 1, 2, 1, 1, 1, 0])

    def test_a_refusal_is_its_number_alone(self):
        self.assertEqual(answers([2, 0]), [1, -1])
        self.assertEqual(answers([3, 1]), [1, -2])
        self.assertEqual(answers([2, 1, 2, 1]), [1, 1, 1, -3])
        self.assertEqual(answers([1, 0]), [1, -1])

    def test_all_six_in_one_list(self):
        self.assertEqual(answered(*EVERY_CALL), EVERY_ANSWER)
        self.assertEqual(answers(joined(EVERY_CALL)), joined([1, each] for each in EVERY_ANSWER))

    def test_any_call_may_be_first(self):
        for call, answer in ((BEGINS, 0), (order(2, 1, 0), 0), (fact(1), 1), (unfact(1), -2), (rule(), 0),
                             (first(0, 0), -2)):
            self.assertEqual(answers(call), [1, answer])

    def test_sixty_calls(self):
        self.assertEqual(answered(*[BEGINS] * 60), [0] * 60)
        self.assertEqual(answered(*[fact(4), unfact(4)] * 30), [1, 0] * 30)

    def test_whole_numbers_in_a_plain_list(self):
        given = answers(joined(EVERY_CALL))
        self.assertIs(type(given), list)
        self.assertEqual({type(number) for number in given}, {int})


class Rows(unittest.TestCase):
    def test_rows_of_each_length_are_read_to_their_end(self):
        for length in range(11):
            conditions = tuple(range(1, length + 1))
            expected = [0 if length <= 5 else -1, 1]
            self.assertEqual(answered(rule(20, conditions), fact(6)), expected)
            self.assertEqual(answered(order(*[0] * length), fact(6)), [-1, 1])

    def test_numbers_in_a_row_are_not_taken_for_calls(self):
        self.assertEqual(answered(rule(2, (2, 3, 4, 5)), order(1, 0, 2), fact(2)), [0, 0, 1])

    def test_a_count_is_not_taken_for_a_condition(self):
        self.assertEqual(answered(rule(1, (1,)), rule(1, (2, 3)), rule(1, (3, 1, 2))), [0, 1, 2])


class Later(unittest.TestCase):
    def test_calls_of_the_next_stage_are_read_to_their_end(self):
        for call in LATER_CALLS:
            given = parted(answers(fact(1) + call + fact(2)))
            self.assertEqual([given[0], given[2]], [[1], [2]])

    def test_a_list_of_all_twelve(self):
        calls = [BEGINS, order(0, 1, 2), fact(1), unfact(1), rule(), rule(-1), first(1, 0)] + LATER_CALLS + [fact(9)]
        given = parted(answers(joined(calls)))
        self.assertEqual(given[:7], [[0], [0], [1], [0], [0], [1], [0]])
        self.assertEqual((len(given), given[-1]), (len(calls), [1]))


class Handed(unittest.TestCase):
    def test_the_list_is_as_it_was(self):
        calls = joined(EVERY_CALL + LATER_CALLS)
        before = copy.deepcopy(calls)
        answers(calls)
        self.assertEqual(calls, before)

    def test_the_list_is_not_changed_for_a_while_either(self):
        calls = Unchanging(joined(EVERY_CALL + LATER_CALLS))
        self.assertEqual(answers(calls), answers(list(calls)))

    def test_what_is_given_back_is_another_list_each_time(self):
        calls = [0]
        given = answers(calls)
        given.append(7)
        self.assertEqual(answers(calls), [1, 0])
        self.assertEqual(calls, [0])


class Kept(unittest.TestCase):
    def test_the_same_list_twice(self):
        calls = joined(EVERY_CALL)
        self.assertEqual(answers(calls), answers(calls))

    def test_no_fact_is_kept(self):
        for _ in range(3):
            self.assertEqual(answered(fact(1), fact(2)), [1, 2])
        self.assertEqual(answered(unfact(1)), [-2])

    def test_no_rule_and_nothing_told_of_two_is_kept(self):
        for _ in range(3):
            self.assertEqual(answered(rule(), rule(), first(0, 1)), [0, 1, 0])
        self.assertEqual(answered(first(0, 1)), [-2])

    def test_a_full_code_is_not_kept(self):
        answered(*[fact(each) for each in range(1, 21)], *[rule()] * 20)
        self.assertEqual(answered(fact(-1), rule()), [1, 0])


class Quiet(unittest.TestCase):
    def test_nothing_is_printed_read_or_imported(self):
        calls = joined(EVERY_CALL)
        out, err = io.StringIO(), io.StringIO()
        with contextlib.redirect_stdout(out), contextlib.redirect_stderr(err):
            with mock.patch.object(builtins, "__import__", refuse), mock.patch.object(builtins, "open", refuse), \
                    mock.patch.object(builtins, "input", refuse):
                given = answers(calls)
        self.assertEqual((out.getvalue(), err.getvalue()), ("", ""))
        self.assertEqual(given, joined([1, each] for each in EVERY_ANSWER))


if __name__ == "__main__":
    unittest.main()
