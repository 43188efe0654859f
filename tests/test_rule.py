import unittest

from tests.helper import (
    ALL_STATEMENTS, BOTTOM, EMPTY, TOP, TWENTY_FACTS, TWENTY_RULES, WRONG_STATEMENTS, answered, fact, first, last,
    order, rule, state_after, unfact,
)

WRONG_RULES = [
    rule(0), rule(21), rule(-21), rule(BOTTOM), rule(TOP),
    rule(rank=10), rule(rank=TOP), rule(day=100000), rule(day=TOP),
    rule(1, (0,)), rule(1, (21,)), rule(1, (-21,)), rule(1, (BOTTOM,)), rule(1, (TOP,)), rule(1, (1, 2, 3, 4, 21)),
    rule(1, (2, 2)), rule(1, (2, 3, 4, 5, 2)), rule(1, (2, 3, 4, 5, 6, 7)), rule(1, tuple(range(2, 12))),
]


class Rule(unittest.TestCase):
    def test_answers_its_number(self):
        self.assertEqual(answered(rule(1), rule(2), rule(-3)), [0, 1, 2])

    def test_each_part_is_kept_where_it_belongs(self):
        told = [rule(7, (-3, 4, 12), 2, 5, 8000), rule(-20, (), 0, 9, 99999), rule(1, (20, -20), 1, 0, 0)]
        expected = [(2, 5, 8000, 7, (-3, 4, 12)), (0, 9, 99999, -20, ()), (1, 0, 0, 1, (20, -20))]
        self.assertEqual(state_after(*told)[1], expected)

    def test_the_order_of_conditions_is_kept(self):
        self.assertEqual(state_after(rule(1, (5, -2, 9, 3, -8)))[1][0][4], (5, -2, 9, 3, -8))

    def test_each_kind(self):
        for kind in (0, 1, 2):
            self.assertEqual(answered(rule(kind=kind)), [0])
            self.assertEqual(answered(rule(0, kind=kind)), [-1])

    def test_each_statement_may_be_said_and_be_a_condition(self):
        for statement in ALL_STATEMENTS:
            self.assertEqual(answered(rule(statement), rule(1, (statement,))), [0, 1])

    def test_the_same_rule_twice_is_two_rules(self):
        self.assertEqual(answered(rule(4, (1, 2)), rule(4, (1, 2))), [0, 1])

    def test_unlike_conditions(self):
        self.assertEqual(answered(rule(4, (2, -2)), rule(4, (4,)), rule(4, (-4, 4))), [0, 1, 2])

    def test_a_rule_makes_no_fact(self):
        self.assertEqual(state_after(rule(4))[0], [])
        self.assertEqual(answered(rule(4), fact(4), rule(4), unfact(4)), [0, 1, 1, 0])


class Edges(unittest.TestCase):
    def test_rank(self):
        for rank in range(10):
            self.assertEqual(answered(rule(rank=rank)), [0])
        for rank in (10, 11, 99999, 2147483648, TOP):
            self.assertEqual(answered(rule(rank=rank)), [-1])

    def test_day(self):
        for day in (0, 1, 9, 10, 99998, 99999):
            self.assertEqual(answered(rule(day=day)), [0])
        for day in (100000, 100001, 2147483648, TOP):
            self.assertEqual(answered(rule(day=day)), [-1])

    def test_rank_and_day_together(self):
        self.assertEqual(answered(rule(rank=9, day=99999), rule(rank=10, day=9), rule(rank=9, day=100000)), [0, -1, -1])

    def test_what_it_says(self):
        expected = ((20, 0), (-20, 0), (1, 0), (-1, 0), (21, -1), (-21, -1), (0, -1), (BOTTOM, -1), (TOP, -1))
        for said, answer in expected:
            self.assertEqual(answered(rule(said)), [answer], said)

    def test_how_many_conditions(self):
        for many in range(11):
            conditions = tuple(range(2, 2 + many))
            self.assertEqual(answered(rule(1, conditions)), [0 if many <= 5 else -1], many)

    def test_wrong_conditions_in_each_place(self):
        for wrong in WRONG_STATEMENTS:
            for place in range(5):
                conditions = [2, -3, 4, -5, 6]
                conditions[place] = wrong
                self.assertEqual(answered(rule(1, conditions)), [-1], conditions)

    def test_edge_conditions_in_each_place(self):
        for edge in (20, -20, 1, -1):
            for place in range(5):
                conditions = [2, -3, 4, -5, 6]
                conditions[place] = edge
                self.assertEqual(answered(rule(1, conditions)), [0], conditions)

    def test_a_condition_twice_in_any_two_places(self):
        for one in range(5):
            for other in range(one):
                conditions = [2, -3, 4, -5, 6]
                conditions[one] = conditions[other]
                self.assertEqual(answered(rule(1, conditions)), [-1], conditions)

    def test_one_condition_many_times(self):
        for many in range(2, 11):
            self.assertEqual(answered(rule(1, (3,) * many)), [-1])

    def test_the_twentieth_and_the_twenty_first(self):
        self.assertEqual(answered(*TWENTY_RULES), list(range(20)))
        self.assertEqual(answered(*TWENTY_RULES, rule(), rule(-20))[-2:], [-5, -5])

    def test_refused_ones_take_no_number(self):
        self.assertEqual(answered(rule(), *WRONG_RULES, rule()), [0, *[-1] * len(WRONG_RULES), 1])

    def test_facts_and_rules_do_not_crowd_one_another(self):
        self.assertEqual(answered(*TWENTY_FACTS, *TWENTY_RULES), [*range(1, 21), *range(20)])


class FirstToldCounts(unittest.TestCase):
    def test_a_rule_that_may_not_be_told_while_there_are_twenty(self):
        for wrong in WRONG_RULES:
            self.assertEqual(last(*TWENTY_RULES, wrong), -1, wrong)


class Unchanged(unittest.TestCase):
    def test_by_each_refusal(self):
        told = [order(1, 0, 2), rule(2), rule(-2), first(0, 1), fact(6)]
        for wrong in WRONG_RULES:
            self.assertEqual(state_after(wrong), EMPTY)
            self.assertEqual(state_after(*told, wrong), state_after(*told))
        full = [*TWENTY_RULES, fact(6), first(3, 2)]
        for refused in (rule(), *WRONG_RULES):
            self.assertEqual(state_after(*full, refused), state_after(*full))

    def test_nothing_else_by_an_answer(self):
        told = [order(1, 0, 2), rule(2), rule(-2), first(0, 1), fact(6)]
        before, after = state_after(*told), state_after(*told, rule(6))
        self.assertEqual((after[0], after[1][:2], after[2], after[3]), before)


if __name__ == "__main__":
    unittest.main()
