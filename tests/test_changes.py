import unittest

from ruleexceptions.code import answers
from tests.helper import (
    ALL_STATEMENTS, GUARD, STRICT, TWENTY_FACTS, WRONG_STATEMENTS, answered, ask, changes, fact, first, last, order,
    rule, state_after)

# 1 a bird, 2 a penguin, 3 it flies.
BIRDS = [rule(3, (1,)), rule(-3, (2,)), rule(1, (2,), STRICT)]


class Changes(unittest.TestCase):
    def test_one_more_fact(self):
        self.assertEqual(last(*BIRDS, changes(1)), [2, 1, 3])
        self.assertEqual(last(*BIRDS, changes(2)), [3, 1, 2, 3])
        self.assertEqual(last(*BIRDS, fact(1), changes(2)), [2, 2, 3])

    def test_what_is_answered_otherwise_alone(self):
        self.assertEqual(last(rule(5, (1,)), rule(6, (1,)), rule(5), changes(1)), [2, 1, 6])

    def test_the_least_first(self):
        told = [rule(20, (9,)), rule(-4, (9,)), rule(11, (9,)), rule(2, (11,))]
        self.assertEqual(last(*told, changes(9)), [5, 2, 4, 9, 11, 20])

    def test_of_one_below_nought(self):
        self.assertEqual(last(rule(5, (-1,)), changes(-1)), [2, 1, 5])
        self.assertEqual(last(rule(5, (-1,)), changes(1)), [1, 1])

    def test_each_other_answer(self):
        self.assertEqual(last(rule(1, (9,)), changes(9)), [2, 1, 9])
        self.assertEqual(last(rule(1), rule(-1, (9,), rank=1), changes(9)), [2, 1, 9])
        self.assertEqual(last(fact(8), rule(1, (8,)), rule(-1, (9,)), changes(9)), [2, 1, 9])
        self.assertEqual(last(rule(1), rule(-1, (9,), GUARD), changes(9)), [2, 1, 9])
        self.assertEqual(last(rule(1, (2,)), rule(2, (1,)), changes(-1)), [2, 1, 2])
        self.assertEqual(last(fact(1), rule(-1, (9,), STRICT), changes(9)), [2, 1, 9])

    def test_nothing_told(self):
        for statement in ALL_STATEMENTS:
            self.assertEqual(answers(changes(statement)), [2, 1, abs(statement)])


class Edges(unittest.TestCase):
    def test_a_fact_already(self):
        self.assertEqual(answers(fact(1) + changes(1)), [1, 1, 1, 0])
        self.assertEqual(last(*BIRDS, fact(2), changes(2)), 0)
        self.assertEqual(last(fact(-5), changes(-5)), 0)

    def test_one_that_holds_already(self):
        self.assertEqual(last(rule(1), changes(1)), 0)
        self.assertEqual(last(rule(1, (), STRICT), changes(1)), 0)
        self.assertEqual(last(rule(1), rule(-2), rule(2, (1,), rank=1), changes(1)), 0)

    def test_not_named_as_yet(self):
        self.assertEqual(last(fact(1), changes(7)), [1, 7])
        self.assertEqual(last(fact(1), changes(-7)), [1, 7])
        self.assertEqual(last(rule(1, (2,)), changes(20)), [1, 20])

    def test_its_opposite_is_a_fact(self):
        self.assertEqual(last(fact(-1), changes(1)), [1, 1])
        self.assertEqual(last(fact(1), changes(-1)), [1, 1])
        self.assertEqual(last(fact(-1), rule(2, (1,)), rule(3, (-1,)), changes(1)), [2, 1, 2])

    def test_while_there_are_twenty_facts(self):
        self.assertEqual(last(*TWENTY_FACTS, changes(-3)), [1, 3])
        self.assertEqual(last(*TWENTY_FACTS, changes(3)), 0)
        told = [fact(number) for number in ALL_STATEMENTS if abs(number) <= 10]
        self.assertEqual(len(told), 20)
        self.assertEqual(last(*told, rule(12, (11,)), changes(11)), [2, 11, 12])
        self.assertEqual(last(*told, rule(12, (11,)), changes(19)), [1, 19])

    def test_by_what_is_told_of_two_and_by_the_order(self):
        told = [rule(1), rule(-1, (2,)), rule(3, (2,))]
        self.assertEqual(last(*told, changes(2)), [3, 1, 2, 3])
        self.assertEqual(last(*told, first(0, 1), changes(2)), [2, 2, 3])
        self.assertEqual(last(rule(1, rank=1), rule(-1, (2,)), changes(2)), [1, 2])
        self.assertEqual(last(rule(1, rank=1), rule(-1, (2,)), order(1, 0, 2), changes(2)), [2, 1, 2])


class Wrong(unittest.TestCase):
    def test_no_statement(self):
        for statement in WRONG_STATEMENTS:
            self.assertEqual(last(changes(statement)), -1)
            self.assertEqual(last(*BIRDS, fact(1), changes(statement)), -1)
        self.assertEqual(answered(*TWENTY_FACTS, changes(21), changes(0))[20:], [-1, -1])


class Unchanged(unittest.TestCase):
    def test_nothing_is_changed(self):
        told = [order(2, 1, 0), *BIRDS, first(0, 1), fact(1)]
        for statement in (1, 2, -1, -3, 9, 0, 21):
            self.assertEqual(state_after(*told, changes(statement)), state_after(*told))

    def test_it_is_no_fact_afterwards(self):
        self.assertEqual(answered(*BIRDS, changes(2), ask(2), ask(3), fact(2))[4:], [0, 0, 1])


if __name__ == "__main__":
    unittest.main()
