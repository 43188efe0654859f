import itertools
import unittest

from ruleexceptions.code import answers
from tests.helper import (
    ALL_STATEMENTS, BOTTOM, STRICT, TOP, TWENTY_FACTS, WRONG_STATEMENTS, answered, ask, fact, fewest, first, last,
    order, rule, state_after)

ANY_TWO = [rule(9, (1, 2)), rule(9, (2, 3)), rule(9, (1, 3))]


class Least(unittest.TestCase):
    def test_with_none_of_them(self):
        self.assertEqual(last(fact(1), fewest(1)), [0, 1])
        self.assertEqual(last(fact(1), fewest(1, 2, 3)), [0, 1])
        self.assertEqual(last(rule(1), fewest(1, 1, 2)), [0, 1])
        self.assertEqual(answers(fact(1) + fewest(1, 1)), [1, 1, 2, 0, 1])

    def test_with_one(self):
        self.assertEqual(last(rule(9, (1,)), fewest(9, 1)), [1, 1, 1])
        self.assertEqual(last(rule(9, (-1,)), fewest(9, 2, -1, 3)), [1, 1, -1])
        self.assertEqual(last(fewest(9, 9)), [1, 1, 9])

    def test_with_several(self):
        self.assertEqual(last(rule(9, (1, 2, 3)), fewest(9, 4, 3, 2, 1)), [3, 1, 3, 2, 1])

    def test_with_all(self):
        told = [rule(9, (1, 2, 3), STRICT), rule(10, (9, 4, 5, 6))]
        self.assertEqual(last(*told, fewest(10, 6, 2, 3, 4, 5, 1)), [6, 1, 6, 2, 3, 4, 5, 1])

    def test_fewer_go_ahead_of_more(self):
        self.assertEqual(last(rule(9, (1, 2)), rule(9, (3,)), fewest(9, 1, 2, 3)), [1, 1, 3])

    def test_of_a_statement_below_nought(self):
        self.assertEqual(last(rule(-9, (1,)), fewest(-9, 1)), [1, 1, 1])
        self.assertEqual(last(rule(-9, (1,)), fewest(9, 1)), -6)

    def test_one_more_may_spoil_it(self):
        told = [rule(9, (1,)), rule(-9, (1, 2)), rule(9, (1, 2, 3))]
        self.assertEqual(last(*told, fact(2), fewest(9, 1, 3)), [2, 1, 1, 3])
        self.assertEqual(last(*told, fewest(9, 1, 2, 3)), [1, 1, 1])
        self.assertEqual(last(*told, fact(1), fact(2), fewest(9, 1, 3)), [1, 1, 3])

    def test_one_may_be_wanted_to_stop_a_rule(self):
        told = [rule(9), rule(-9, (2,)), rule(2), rule(-2, (3,), rank=1)]
        self.assertEqual(last(*told, fewest(9, 1, 3, 4)), [1, 1, 3])


class Sets(unittest.TestCase):
    def test_several_of_one_size(self):
        self.assertEqual(last(*ANY_TWO, fewest(9, 1, 2, 3)), [2, 3, 1, 2, 1, 3, 2, 3])

    def test_in_the_order_told(self):
        self.assertEqual(last(*ANY_TWO, fewest(9, 3, 1, 2)), [2, 3, 3, 1, 3, 2, 1, 2])
        self.assertEqual(last(*ANY_TWO, fewest(9, 2, 5, 3, 1)), [2, 3, 2, 3, 2, 1, 3, 1])

    def test_singles_in_the_order_told(self):
        told = [rule(9, (1,)), rule(9, (2,)), rule(9, (-3,))]
        self.assertEqual(last(*told, fewest(9, 2, -3, 3, 9, 1)), [1, 4, 2, -3, 9, 1])

    def test_all_sets_of_three_of_six(self):
        told = [rule(9, each) for each in itertools.combinations((1, 2, 3, 4, 5, 6), 3)]
        some = (4, 2, 6, 1, 5, 3)
        sets = list(itertools.combinations(some, 3))
        self.assertEqual(last(*told, fewest(9, *some)), [3, 20] + [each for every in sets for each in every])

    def test_only_some_of_one_size(self):
        told = [rule(9, (1, 6)), rule(9, (3, 4)), rule(9, (2, 5))]
        self.assertEqual(last(*told, fewest(9, 1, 2, 3, 4, 5, 6)), [2, 3, 1, 6, 2, 5, 3, 4])


class Facts(unittest.TestCase):
    def test_facts_already(self):
        self.assertEqual(last(*ANY_TWO, fact(1), fewest(9, 1, 2, 3)), [1, 2, 2, 3])
        self.assertEqual(last(*ANY_TWO, fact(1), fact(2), fewest(9, 1, 2, 3)), [0, 1])

    def test_only_facts_already(self):
        self.assertEqual(last(*ANY_TWO, fact(1), fewest(9, 1)), -6)

    def test_facts_that_are_not_among_them(self):
        self.assertEqual(last(*ANY_TWO, fact(1), fewest(9, 3)), [1, 1, 3])

    def test_while_there_are_twenty(self):
        self.assertEqual(last(*TWENTY_FACTS, fewest(20, -1)), [0, 1])
        self.assertEqual(last(*TWENTY_FACTS, fewest(-20, -20, -1)), -6)
        told = [fact(number) for number in ALL_STATEMENTS if abs(number) <= 10] + [rule(12, (11, 13))]
        self.assertEqual(last(*told, fewest(12, 11, 13)), [2, 1, 11, 13])
        self.assertEqual(last(*told, fewest(14, 15, 14)), [1, 1, 14])


class NoSet(unittest.TestCase):
    def test_none_told(self):
        self.assertEqual(last(fewest(1)), -6)
        self.assertEqual(last(rule(9, (1,)), fewest(9)), -6)
        self.assertEqual(last(rule(9), rule(-9), fewest(9)), -6)

    def test_no_set_does(self):
        self.assertEqual(last(rule(9, (1, 2)), fewest(9, 1, 3, 4, 5, 6, 7)), -6)
        self.assertEqual(last(fewest(9, -9, 1)), -6)

    def test_both_is_not_enough(self):
        self.assertEqual(last(fact(-9), fewest(9, 9)), -6)
        self.assertEqual(last(fact(9), fact(-9), fewest(9, 1)), -6)
        self.assertEqual(last(fact(-9), rule(9, (1,), STRICT), fewest(9, 1)), -6)

    def test_contested_and_open_are_not_enough(self):
        self.assertEqual(last(rule(9, (1,)), rule(-9, (1,)), fewest(9, 1)), -6)
        self.assertEqual(last(rule(9, (8,)), rule(8, (9,)), fewest(9, 1)), -6)
        self.assertEqual(last(rule(9, (8,)), rule(8, (9,)), fewest(9, 1, 8)), [1, 1, 8])

    def test_by_what_is_told_of_two_and_by_the_order(self):
        told = [rule(9, (1,)), rule(-9, (1, 2)), fact(2)]
        self.assertEqual(last(*told, fewest(9, 1)), -6)
        self.assertEqual(last(*told, first(0, 1), fewest(9, 1)), [1, 1, 1])
        told = [rule(9, (1,), day=1), rule(-9, (1, 2)), fact(2), order(2, 1, 0)]
        self.assertEqual(last(*told, fewest(9, 1)), [1, 1, 1])


class Wrong(unittest.TestCase):
    def test_no_statement(self):
        for statement in WRONG_STATEMENTS:
            self.assertEqual(last(fact(1), fewest(statement, 1)), -1)
            self.assertEqual(last(fact(1), fewest(statement)), -1)

    def test_no_statement_among_them(self):
        for statement in WRONG_STATEMENTS:
            for some in ((statement,), (statement, 1), (1, 2, 3, 4, 5, statement)):
                self.assertEqual(last(rule(9, (1,)), fewest(9, *some)), -1)

    def test_more_than_six(self):
        self.assertEqual(last(rule(9, (1,)), fewest(9, 6, 5, 4, 3, 2, 1)), [1, 1, 1])
        for length in (7, 8, 9, 10):
            self.assertEqual(last(rule(9, (1,)), fewest(9, *range(1, length + 1))), -1)

    def test_one_twice(self):
        for some in ((1, 1), (1, 2, 1), (2, 3, 4, 5, 1, 1), (-3, -3)):
            self.assertEqual(last(rule(9, (1,)), fewest(9, *some)), -1)

    def test_a_statement_and_its_opposite_are_unlike(self):
        self.assertEqual(last(rule(9, (1,)), fewest(9, 1, -1)), [1, 1, 1])
        self.assertEqual(last(rule(9, (1, -1)), fewest(9, 1, -1)), [2, 1, 1, -1])

    def test_at_the_edges(self):
        self.assertEqual(last(rule(20, (-20,)), fewest(20, -20, 19)), -6)
        self.assertEqual(last(rule(-19, (20, -20)), fewest(-19, 20, -20)), [2, 1, 20, -20])


class FirstToldCounts(unittest.TestCase):
    def test_wrong_goes_ahead_of_no_set(self):
        for some in ((2, 2), (0,), (1, 2, 3, 4, 5, 6, 7), (TOP, BOTTOM)):
            self.assertEqual(last(fewest(9, *some)), -1)
        self.assertEqual(last(fewest(0)), -1)

    def test_wrong_though_none_would_be_wanted(self):
        for some in ((2, 2), (0,), (1, 2, 3, 4, 5, 6, 7), (TOP, BOTTOM)):
            self.assertEqual(last(fact(9), fewest(9, *some)), -1)


class Unchanged(unittest.TestCase):
    def test_nothing_is_changed(self):
        told = [order(2, 1, 0), *ANY_TWO, first(0, 1), fact(7)]
        for call in (fewest(9, 1, 2, 3), fewest(7, 1), fewest(8, 1), fewest(9, 1, 1), fewest(0)):
            self.assertEqual(state_after(*told, call), state_after(*told))

    def test_they_are_no_facts_afterwards(self):
        self.assertEqual(answered(*ANY_TWO, fewest(9, 1, 2), ask(1), ask(9), fact(1))[4:], [0, 0, 1])


if __name__ == "__main__":
    unittest.main()
