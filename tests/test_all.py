import unittest

from ruleexceptions.code import answers
from tests.helper import ALL, BEGINS, GUARD, STRICT, answered, ask, fact, first, last, order, rule, state_after, unfact

# 1 a fact, 2 not so, 3 contested, 4 and 5 open, 6 both, 7 nothing.
EACH_ANSWER = [fact(1), rule(-2), rule(3), rule(-3), rule(4, (5,)), rule(5, (4,)), fact(6), fact(-6), rule(7, (8,))]


class All(unittest.TestCase):
    def test_nothing_told(self):
        self.assertEqual(answers([9]), [1, 0])
        self.assertEqual(last(order(2, 1, 0), ALL), 0)
        self.assertEqual(last(fact(1), rule(2), BEGINS, ALL), 0)
        self.assertEqual(last(fact(1), unfact(1), ALL), 0)
        self.assertEqual(last(rule(0), rule(1, (2, 2)), fact(21), ALL), 0)

    def test_each_of_the_answers(self):
        self.assertEqual(last(*EACH_ANSWER, ALL), [8, 1, 1, 2, 2, 3, 3, 4, 4, 5, 4, 6, 5, 7, 0, 8, 0])

    def test_the_count_of_numbers_ahead(self):
        self.assertEqual(answers([2, 9, 9]), [1, 1, 3, 1, 9, 1])

    def test_the_least_first(self):
        self.assertEqual(last(fact(20), fact(3), fact(11), fact(-10), ALL), [4, 3, 1, 10, 2, 11, 1, 20, 1])

    def test_named_only_below_nought(self):
        self.assertEqual(last(fact(-4), ALL), [1, 4, 2])
        self.assertEqual(last(rule(-4), ALL), [1, 4, 2])
        self.assertEqual(last(rule(1, (-4,)), ALL), [2, 1, 0, 4, 0])
        self.assertEqual(last(rule(-20, (-19,)), ALL), [2, 19, 0, 20, 0])

    def test_named_only_in_a_condition(self):
        self.assertEqual(last(rule(9, (8, 7)), ALL), [3, 7, 0, 8, 0, 9, 0])
        self.assertEqual(last(rule(9, (8, -7), GUARD), ALL), [3, 7, 0, 8, 0, 9, 0])

    def test_named_by_any_kind_of_rule(self):
        self.assertEqual(last(rule(1, kind=GUARD), ALL), [1, 1, 0])
        self.assertEqual(last(rule(1, kind=STRICT), ALL), [1, 1, 1])

    def test_each_only_once(self):
        told = [fact(1), fact(-1), rule(1), rule(-1, (1, -1)), rule(2, (1,)), rule(-2, (2, -2))]
        self.assertEqual(last(*told, ALL), [2, 1, 5, 2, 1])

    def test_all_twenty(self):
        told = [fact(-number) for number in range(1, 11)] + [rule(number) for number in range(11, 21)]
        expected = [20] + [part for number in range(1, 21) for part in (number, 2 if number <= 10 else 1)]
        self.assertEqual(last(*told, ALL), expected)

    def test_as_ask_answers(self):
        whole = last(*EACH_ANSWER, first(1, 2), ALL)
        single = answered(*EACH_ANSWER, first(1, 2), *[ask(number) for number in range(1, 9)])[-8:]
        self.assertEqual(whole[2::2], single)

    def test_nothing_is_changed(self):
        told = [order(2, 1, 0), *EACH_ANSWER, first(1, 2)]
        self.assertEqual(state_after(*told, ALL), state_after(*told))


if __name__ == "__main__":
    unittest.main()
