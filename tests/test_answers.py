import builtins
import contextlib
import copy
import io
import unittest
from unittest import mock

from ruleexceptions.code import answers
from tests.helper import (
    ALL, BEGINS, BOTTOM, TOP, answered, ask, before, changes, fact, fewest, first, joined, order, parted, rule, unfact,
    why)

TELLING_CALLS = [
    order(2, 0, 1), order(0, 0, 1), fact(3), fact(3), fact(0), unfact(3), unfact(3),
    rule(5, (1, -2)), rule(-5, (1, 1)), rule(-5), first(0, 1), first(1, 0), first(2, 2), BEGINS, fact(-20),
]
TELLING_ANSWERS = [0, -1, 1, -3, -1, 0, -2, 0, -1, 1, 0, -3, -2, 0, 1]

# All of these are asked while -20 alone is told.
ASKING_CALLS = [
    ask(20), ask(-20), ask(0), why(-20), why(1), why(21), before(0, 0), ALL, changes(5), changes(-20), changes(BOTTOM),
    fewest(-20), fewest(1, 2, 1, 3), fewest(4, -4), fewest(1, 3, 3), fewest(TOP, 1),
]
ASKING_ANSWERS = [
    [2], [1], [-1], [0], [-6], [-1], [-2], [1, 20, 2], [1, 5], [0], [-1],
    [0, 1], [1, 1, 1], [-6], [-1], [-1],
]

EVERY_CALL = TELLING_CALLS + ASKING_CALLS
EVERY_ANSWER = [[each] for each in TELLING_ANSWERS] + ASKING_ANSWERS

REFUSED_CALLS = [
    ask(TOP), why(BOTTOM), before(TOP, TOP), changes(BOTTOM), fewest(TOP, *[9] * 10), fewest(1, *range(1, 11)),
]


def refuse(self, *args, **kwargs):
    raise AssertionError("the list handed in is changed")


class Unchanging(list):
    __setitem__ = __delitem__ = __iadd__ = __imul__ = refuse
    append = clear = extend = insert = pop = remove = reverse = sort = refuse


class Form(unittest.TestCase):
    def test_each_answer_has_its_count_ahead(self):
        self.assertEqual(answers([0]), [1, 0])
        self.assertEqual(answers([2, 7, 2, 8, 3, 7, 0]), [1, 1, 1, 2, 1, 1, 1, 0])

    def test_a_refusal_is_its_number_alone(self):
        self.assertEqual(answers([2, 0]), [1, -1])
        self.assertEqual(answers([3, 1]), [1, -2])
        self.assertEqual(answers([2, 1, 2, 1]), [1, 1, 1, -3])
        self.assertEqual(answers([1, 0]), [1, -1])

    def test_all_twelve_in_one_list(self):
        self.assertEqual(parted(answers(joined(EVERY_CALL))), EVERY_ANSWER)
        self.assertEqual(answers(joined(EVERY_CALL)), joined([len(each), *each] for each in EVERY_ANSWER))

    def test_any_call_may_be_first(self):
        for call, answer in ((BEGINS, [0]), (order(2, 1, 0), [0]), (fact(1), [1]), (unfact(1), [-2]), (rule(), [0]),
                             (first(0, 0), [-2]), (ask(1), [0]), (why(1), [-6]), (before(0, 0), [-2]), (ALL, [0]),
                             (changes(1), [1, 1]), (fewest(1, 1), [1, 1, 1])):
            self.assertEqual(answers(call), [len(answer), *answer])

    def test_sixty_calls(self):
        self.assertEqual(answered(*[BEGINS] * 60), [0] * 60)
        self.assertEqual(answered(*[fact(4), unfact(4)] * 30), [1, 0] * 30)

    def test_whole_numbers_in_a_plain_list(self):
        given = answers(joined(EVERY_CALL))
        self.assertIs(type(given), list)
        self.assertEqual({type(number) for number in given}, {int})


class Rows(unittest.TestCase):
    def test_rows_of_each_length_are_read_to_their_end(self):
        for length in range(11):
            conditions = tuple(range(1, length + 1))
            expected = [0 if length <= 5 else -1, 1]
            self.assertEqual(answered(rule(20, conditions), fact(6)), expected)
            self.assertEqual(answered(order(*[0] * length), fact(6)), [-1, 1])

    def test_numbers_in_a_row_are_not_taken_for_calls(self):
        self.assertEqual(answered(rule(2, (2, 3, 4, 5)), order(1, 0, 2), fact(2)), [0, 0, 1])

    def test_a_count_is_not_taken_for_a_condition(self):
        self.assertEqual(answered(rule(1, (1,)), rule(1, (2, 3)), rule(1, (3, 1, 2))), [0, 1, 2])


class Behind(unittest.TestCase):
    def test_calls_that_ask_are_read_to_their_end(self):
        for call in ASKING_CALLS + REFUSED_CALLS:
            given = parted(answers(fact(1) + call + fact(2)))
            self.assertEqual((len(given), given[0], given[2]), (3, [1], [2]))

    def test_no_call_answers_no_numbers(self):
        for call in EVERY_CALL + REFUSED_CALLS:
            self.assertNotIn([], parted(answers(call)))

    def test_some_of_each_length_are_read_to_their_end(self):
        for length in range(11):
            expected = [1, 1, 9] if 1 <= length <= 6 else -6 if length == 0 else -1
            some = [*range(10 - length, 10)] if length < 10 else [*range(1, 11)]
            self.assertEqual(answered(fewest(9, *some), fact(6)), [expected, 1])


class Handed(unittest.TestCase):
    def test_the_list_is_as_it_was(self):
        calls = joined(EVERY_CALL)
        before = copy.deepcopy(calls)
        answers(calls)
        self.assertEqual(calls, before)

    def test_the_list_is_not_changed_for_a_while_either(self):
        calls = Unchanging(joined(EVERY_CALL))
        self.assertEqual(answers(calls), answers(list(calls)))

    def test_what_is_given_back_is_another_list_each_time(self):
        calls = [0]
        given = answers(calls)
        given.append(7)
        self.assertEqual(answers(calls), [1, 0])
        self.assertEqual(calls, [0])


class Kept(unittest.TestCase):
    def test_the_same_list_twice(self):
        calls = joined(EVERY_CALL)
        self.assertEqual(answers(calls), answers(calls))

    def test_no_fact_is_kept(self):
        for _ in range(3):
            self.assertEqual(answered(fact(1), fact(2)), [1, 2])
        self.assertEqual(answered(unfact(1)), [-2])

    def test_no_rule_and_nothing_told_of_two_is_kept(self):
        for _ in range(3):
            self.assertEqual(answered(rule(), rule(), first(0, 1)), [0, 1, 0])
        self.assertEqual(answered(first(0, 1)), [-2])

    def test_nothing_asked_is_kept(self):
        for _ in range(3):
            self.assertEqual(answered(rule(1), rule(-1, (2,)), ask(1), changes(2), why(1))[2:],
                             [1, [2, 1, 2], [2, 0, 1, 1, 0, 2]])
        self.assertEqual(answered(ALL, ask(1), before(0, 1)), [0, 0, -2])

    def test_a_full_code_is_not_kept(self):
        answered(*[fact(each) for each in range(1, 21)], *[rule()] * 20)
        self.assertEqual(answered(fact(-1), rule()), [1, 0])


class Quiet(unittest.TestCase):
    def test_nothing_is_printed_read_or_imported(self):
        calls = joined(EVERY_CALL)
        out, err = io.StringIO(), io.StringIO()
        with contextlib.redirect_stdout(out), contextlib.redirect_stderr(err):
            with mock.patch.object(builtins, "__import__", refuse), mock.patch.object(builtins, "open", refuse), \
                    mock.patch.object(builtins, "input", refuse):
                given = answers(calls)
        self.assertEqual((out.getvalue(), err.getvalue()), ("", ""))
        self.assertEqual(parted(given), EVERY_ANSWER)


if __name__ == "__main__":
    unittest.main()
