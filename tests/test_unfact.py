import unittest

from tests.helper import (
    ALL_STATEMENTS, TWENTY_FACTS, WRONG_STATEMENTS, answered, fact, first, last, order, rule, state_after, unfact,
)


class Unfact(unittest.TestCase):
    def test_answers_how_many_are_left(self):
        self.assertEqual(answered(fact(1), fact(2), fact(3), unfact(2), unfact(1), unfact(3)), [1, 2, 3, 2, 1, 0])

    def test_the_one_told_is_taken_back(self):
        told = [fact(1), fact(2), fact(-3)]
        self.assertEqual(state_after(*told, unfact(2))[0], [-3, 1])
        self.assertEqual(state_after(*told, unfact(1))[0], [-3, 2])
        self.assertEqual(state_after(*told, unfact(-3))[0], [1, 2])

    def test_each_statement(self):
        for statement in ALL_STATEMENTS:
            self.assertEqual(answered(fact(statement), unfact(statement), unfact(statement)), [1, 0, -2])

    def test_no_fact(self):
        self.assertEqual(answered(unfact(4)), [-2])
        self.assertEqual(answered(fact(3), unfact(4)), [1, -2])

    def test_the_opposite_is_another_statement(self):
        self.assertEqual(answered(fact(4), unfact(-4), unfact(4)), [1, -2, 0])
        self.assertEqual(answered(fact(4), fact(-4), unfact(-4), unfact(-4), unfact(4)), [1, 2, 1, -2, 0])

    def test_what_is_no_statement_is_no_fact(self):
        for statement in WRONG_STATEMENTS:
            self.assertEqual(answered(unfact(statement)), [-2])
            self.assertEqual(last(*TWENTY_FACTS, unfact(statement)), -2)

    def test_what_was_refused_is_no_fact(self):
        self.assertEqual(answered(fact(21), unfact(21), fact(0), unfact(0)), [-1, -2, -1, -2])
        self.assertEqual(last(*TWENTY_FACTS, fact(-1), unfact(-1)), -2)

    def test_taken_back_and_told_again(self):
        self.assertEqual(answered(*[fact(9), unfact(9)] * 3, fact(9), fact(9)), [1, 0, 1, 0, 1, 0, 1, -3])

    def test_told_twice_is_taken_back_at_once(self):
        self.assertEqual(answered(fact(9), fact(9), unfact(9), unfact(9)), [1, -3, 0, -2])

    def test_down_from_twenty(self):
        calls = TWENTY_FACTS + [unfact(each) for each in range(1, 21)]
        self.assertEqual(answered(*calls), [*range(1, 21), *reversed(range(20))])

    def test_what_a_rule_says_is_no_fact(self):
        self.assertEqual(answered(rule(5, (), 0), unfact(5)), [0, -2])


class Unchanged(unittest.TestCase):
    def test_by_the_refusal(self):
        told = [order(1, 0, 2), rule(2), rule(-2), first(0, 1), fact(6), fact(7)]
        for statement in (*WRONG_STATEMENTS, -6, 5):
            self.assertEqual(state_after(*told, unfact(statement)), state_after(*told))

    def test_nothing_but_the_facts_by_an_answer(self):
        told = [order(1, 0, 2), rule(2), rule(-2), first(0, 1), fact(2)]
        self.assertEqual(state_after(*told, unfact(2))[1:], state_after(*told)[1:])


if __name__ == "__main__":
    unittest.main()
