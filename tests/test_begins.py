import unittest

from tests.helper import (
    BEGINS, EMPTY, TWENTY_FACTS, TWENTY_RULES, answered, fact, first, last, order, rule, state_after, unfact,
)


class Begins(unittest.TestCase):
    def test_answers_nought(self):
        self.assertEqual(answered(BEGINS), [0])
        self.assertEqual(answered(BEGINS, BEGINS), [0, 0])
        self.assertEqual(last(*TWENTY_FACTS, *TWENTY_RULES, BEGINS), 0)

    def test_no_facts(self):
        self.assertEqual(answered(fact(1), fact(2), BEGINS, unfact(1), fact(1)), [1, 2, 0, -2, 1])

    def test_twenty_facts_are_gone(self):
        self.assertEqual(answered(*TWENTY_FACTS, fact(-1), BEGINS, fact(-1))[-3:], [-5, 0, 1])

    def test_no_rules(self):
        self.assertEqual(answered(rule(), rule(), BEGINS, first(0, 1), rule()), [0, 1, 0, -2, 0])

    def test_twenty_rules_are_gone(self):
        self.assertEqual(answered(*TWENTY_RULES, rule(), BEGINS, rule())[-3:], [-5, 0, 0])

    def test_nothing_told_of_two(self):
        calls = [rule(), rule(), first(0, 1), BEGINS, rule(), rule(), first(1, 0), first(0, 1)]
        self.assertEqual(answered(*calls), [0, 1, 0, 0, 0, 1, 0, -3])

    def test_the_order_is_as_at_first(self):
        self.assertEqual(state_after()[3], (0, 1, 2))
        self.assertEqual(state_after(order(2, 0, 1), BEGINS)[3], (0, 1, 2))

    def test_all_is_as_in_an_empty_code(self):
        calls = [order(1, 2, 0), fact(1), fact(-1), rule(3, (1,)), rule(-3), first(1, 0), BEGINS]
        self.assertEqual(state_after(*calls), EMPTY)
        self.assertEqual(state_after(), EMPTY)

    def test_the_code_can_be_filled_again(self):
        calls = [*TWENTY_FACTS, BEGINS, *TWENTY_FACTS, fact(-1)]
        self.assertEqual(answered(*calls), [*range(1, 21), 0, *range(1, 21), -5])


if __name__ == "__main__":
    unittest.main()
