import unittest

from tests.helper import EMPTY, TOP, TWENTY_RULES, answered, fact, first, last, order, rule, state_after

THREE = [rule(1), rule(-1), rule(2)]


class First(unittest.TestCase):
    def test_answers_nought(self):
        self.assertEqual(last(*THREE, first(0, 1)), 0)
        self.assertEqual(last(*THREE, first(2, 0)), 0)

    def test_the_first_one_goes_before_the_second(self):
        self.assertEqual(state_after(*THREE, first(0, 1))[2], [(0, 1)])
        self.assertEqual(state_after(*THREE, first(2, 0))[2], [(2, 0)])

    def test_told_already(self):
        self.assertEqual(answered(*THREE, first(0, 1), first(0, 1), first(0, 1))[3:], [0, -3, -3])

    def test_the_other_order_is_told_already(self):
        self.assertEqual(answered(*THREE, first(0, 1), first(1, 0), first(0, 1))[3:], [0, -3, -3])
        self.assertEqual(answered(*THREE, first(1, 0), first(0, 1), first(1, 0))[3:], [0, -3, -3])

    def test_other_pairs_may_still_be_told(self):
        self.assertEqual(answered(*THREE, first(0, 1), first(1, 2), first(2, 0))[3:], [0, 0, 0])
        self.assertEqual(answered(*THREE, first(0, 1), first(0, 2), first(2, 1))[3:], [0, 0, 0])

    def test_rules_that_do_not_gainsay_one_another(self):
        self.assertEqual(answered(rule(1), rule(1), rule(5), first(0, 1), first(2, 0))[3:], [0, 0])

    def test_each_kind(self):
        rules = [rule(1, kind=kind) for kind in (0, 1, 2)]
        self.assertEqual(answered(*rules, first(0, 1), first(1, 2), first(2, 0))[3:], [0, 0, 0])

    def test_a_rule_before_itself(self):
        for number in range(3):
            self.assertEqual(last(*THREE, first(number, number)), -3)


class Numbers(unittest.TestCase):
    def test_no_rule_at_all(self):
        for one, other in ((0, 0), (0, 1), (1, 0), (TOP, TOP), (0, TOP)):
            self.assertEqual(answered(first(one, other)), [-2])

    def test_at_and_past_the_last_one(self):
        self.assertEqual(last(*THREE, first(2, 1)), 0)
        self.assertEqual(last(*THREE, first(1, 2)), 0)
        for past in (3, 4, 19, 20, 21, 2147483648, TOP - 1, TOP):
            self.assertEqual(answered(*THREE, first(past, 0), first(0, past), first(past, past))[3:], [-2, -2, -2])

    def test_of_twenty_rules(self):
        calls = [*TWENTY_RULES, first(19, 0), first(18, 19), first(20, 0), first(0, 20), first(19, 20)]
        self.assertEqual(answered(*calls)[20:], [0, 0, -2, -2, -2])

    def test_a_rule_told_later(self):
        self.assertEqual(answered(rule(), first(0, 1), rule(), first(0, 1)), [0, -2, 1, 0])

    def test_a_refused_rule_is_not_there(self):
        self.assertEqual(answered(rule(), rule(0), first(0, 1)), [0, -1, -2])


class FirstToldCounts(unittest.TestCase):
    def test_a_rule_before_itself_that_is_not_there(self):
        for past in (3, 20, TOP):
            self.assertEqual(last(*THREE, first(past, past)), -2)

    def test_not_there_beside_one_that_has_been_told_of(self):
        self.assertEqual(answered(*THREE, first(0, 1), first(3, 1), first(0, 3))[3:], [0, -2, -2])


class Unchanged(unittest.TestCase):
    def test_by_each_refusal(self):
        told = [order(1, 0, 2), *THREE, first(0, 1), fact(6)]
        for one, other in ((0, 3), (3, 0), (TOP, TOP), (0, 0), (2, 2), (0, 1), (1, 0)):
            self.assertEqual(state_after(*told, first(one, other)), state_after(*told))
        self.assertEqual(state_after(first(0, 1)), EMPTY)

    def test_a_refusal_tells_nothing_of_the_two(self):
        self.assertEqual(answered(rule(), first(0, 1), first(1, 0), rule(), first(1, 0))[-1], 0)

    def test_nothing_else_by_an_answer(self):
        told = [order(1, 0, 2), *THREE, fact(6)]
        before, after = state_after(*told), state_after(*told, first(2, 1))
        self.assertEqual((after[0], after[1], after[3]), (before[0], before[1], before[3]))


if __name__ == "__main__":
    unittest.main()
