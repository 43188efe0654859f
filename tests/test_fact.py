import unittest

from tests.helper import (
    ALL_STATEMENTS, BOTTOM, TOP, TWENTY_FACTS, WRONG_STATEMENTS, answered, fact, first, last, order, rule,
    state_after, unfact,
)


class Fact(unittest.TestCase):
    def test_answers_how_many_there_are(self):
        self.assertEqual(answered(fact(3), fact(-7), fact(12)), [1, 2, 3])
        self.assertEqual(state_after(fact(3), fact(-7), fact(12))[0], [-7, 3, 12])

    def test_each_statement_may_be_a_fact(self):
        for statement in ALL_STATEMENTS:
            self.assertEqual(answered(fact(statement)), [1])
            self.assertEqual(state_after(fact(statement))[0], [statement])

    def test_a_statement_and_its_opposite(self):
        self.assertEqual(answered(fact(5), fact(-5)), [1, 2])
        self.assertEqual(answered(fact(-5), fact(5), fact(-5)), [1, 2, -3])
        self.assertEqual(answered(fact(5), fact(-5), unfact(5), fact(-5), fact(5)), [1, 2, 1, -3, 2])

    def test_the_edges(self):
        expected = ((20, 1), (-20, 1), (1, 1), (-1, 1), (21, -1), (-21, -1), (0, -1), (BOTTOM, -1), (TOP, -1))
        for statement, answer in expected:
            self.assertEqual(answered(fact(statement)), [answer], statement)

    def test_wrong_statements(self):
        for statement in WRONG_STATEMENTS:
            self.assertEqual(answered(fact(statement), fact(statement), fact(1)), [-1, -1, 1])

    def test_a_fact_already(self):
        self.assertEqual(answered(fact(8), fact(8), fact(9), fact(8)), [1, -3, 2, -3])

    def test_the_twentieth_and_the_twenty_first(self):
        self.assertEqual(answered(*TWENTY_FACTS), list(range(1, 21)))
        self.assertEqual(last(*TWENTY_FACTS, fact(-1)), -5)
        self.assertEqual(answered(*[fact(each) for each in ALL_STATEMENTS]), [*range(1, 21), *[-5] * 20])

    def test_room_again_when_one_is_taken_back(self):
        calls = [*TWENTY_FACTS, fact(-1), unfact(20), fact(-1), fact(20)]
        self.assertEqual(answered(*calls)[-4:], [-5, 19, 20, -5])

    def test_refused_ones_take_no_room(self):
        calls = [fact(0), fact(21), fact(1), fact(1), *TWENTY_FACTS[1:], fact(-1)]
        self.assertEqual(answered(*calls), [-1, -1, 1, -3, *range(2, 21), -5])


class FirstToldCounts(unittest.TestCase):
    def test_a_wrong_statement_while_there_are_twenty(self):
        for statement in WRONG_STATEMENTS:
            self.assertEqual(last(*TWENTY_FACTS, fact(statement)), -1)

    def test_a_fact_already_while_there_are_twenty(self):
        for statement in range(1, 21):
            self.assertEqual(last(*TWENTY_FACTS, fact(statement)), -3)

    def test_no_fact_yet_while_there_are_twenty(self):
        for statement in range(-20, 0):
            self.assertEqual(last(*TWENTY_FACTS, fact(statement)), -5)


class Unchanged(unittest.TestCase):
    def test_by_each_refusal(self):
        told = [order(1, 0, 2), rule(2), rule(-2), first(0, 1), fact(6)]
        for refused in (fact(0), fact(21), fact(BOTTOM), fact(TOP), fact(6)):
            self.assertEqual(state_after(*told, refused), state_after(*told))
        full = told[:4] + TWENTY_FACTS
        for refused in (fact(-6), fact(0), fact(6)):
            self.assertEqual(state_after(*full, refused), state_after(*full))

    def test_nothing_but_the_facts_by_an_answer(self):
        told = [order(1, 0, 2), rule(2), rule(-2), first(0, 1)]
        self.assertEqual(state_after(*told, fact(6))[1:], state_after(*told)[1:])


if __name__ == "__main__":
    unittest.main()
