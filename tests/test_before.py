import itertools
import unittest

from tests.helper import (
    GUARD, STRICT, TOP, TWENTY_RULES, USUAL, answered, before, fact, first, last, order, rule, state_after)

ORDERS = list(itertools.permutations((0, 1, 2)))


def both_ways(*told):
    """What is answered of the first two rules, and of these the other way about."""
    return answered(*told, before(0, 1), before(1, 0))[-2:]


class Measures(unittest.TestCase):
    def test_rank(self):
        self.assertEqual(both_ways(rule(1, rank=1), rule(-1, rank=0)), [2, 0])
        self.assertEqual(both_ways(rule(1, rank=8), rule(-1, rank=9)), [0, 2])

    def test_special(self):
        self.assertEqual(both_ways(rule(1, (2,)), rule(-1)), [3, 0])
        self.assertEqual(both_ways(rule(1, (2,)), rule(-1, (2, 3))), [0, 3])

    def test_day(self):
        self.assertEqual(both_ways(rule(1, day=1), rule(-1, day=0)), [4, 0])
        self.assertEqual(both_ways(rule(1, day=99998), rule(-1, day=99999)), [0, 4])

    def test_nothing_tells_them_apart(self):
        self.assertEqual(both_ways(rule(1), rule(-1)), [0, 0])
        self.assertEqual(both_ways(rule(1, (2,), rank=3, day=7), rule(-1, (3,), rank=3, day=7)), [0, 0])

    def test_a_rule_and_itself(self):
        for number in (0, 1):
            self.assertEqual(last(rule(1, (2,), rank=3, day=4), rule(-1), before(number, number)), 0)

    def test_rules_that_do_not_gainsay_one_another(self):
        self.assertEqual(both_ways(rule(1, rank=1), rule(1)), [2, 0])
        self.assertEqual(both_ways(rule(1, (5,)), rule(7)), [3, 0])

    def test_each_kind(self):
        for one, other in itertools.product((STRICT, USUAL, GUARD), repeat=2):
            self.assertEqual(both_ways(rule(1, (2,), one), rule(-1, (), other)), [3, 0])
            self.assertEqual(both_ways(rule(1, kind=one, rank=1), rule(-1, kind=other)), [2, 0])

    def test_each_order_with_each_favour(self):
        for rank, special, day in itertools.product((-1, 0, 1), repeat=3):
            conditions = {-1: ((2,), (2, 3)), 0: ((2,), (3,)), 1: ((2, 3), (3,))}[special]
            rules = [rule(1, conditions[0], rank=1 + rank, day=1 + day), rule(-1, conditions[1], rank=1, day=1)]
            favours = (rank, special, day)
            for three in ORDERS:
                telling = [measure for measure in three if favours[measure] != 0]
                expected = [0, 0]
                if telling:
                    expected[0 if favours[telling[0]] > 0 else 1] = telling[0] + 2
                self.assertEqual(both_ways(*rules, order(*three)), expected, (favours, three))

    def test_the_order_at_first(self):
        self.assertEqual(both_ways(rule(1, rank=1), rule(-1, (2,), day=5)), [2, 0])
        self.assertEqual(both_ways(rule(1, day=5), rule(-1, (2,))), [0, 3])


class Told(unittest.TestCase):
    def test_told(self):
        self.assertEqual(both_ways(rule(1), rule(-1), first(0, 1)), [1, 0])
        self.assertEqual(both_ways(rule(1), rule(-1), first(1, 0)), [0, 1])

    def test_against_all_three(self):
        for three in ORDERS:
            told = [rule(1), rule(-1, (2,), rank=9, day=9), order(*three)]
            self.assertNotEqual(both_ways(*told)[1], 0)
            self.assertEqual(both_ways(*told, first(0, 1)), [1, 0])

    def test_told_of_these_two_alone(self):
        told = [rule(1), rule(-1), rule(-1), first(0, 1), first(1, 2)]
        self.assertEqual(answered(*told, before(0, 2), before(2, 0), before(1, 2), before(2, 1))[5:], [0, 0, 1, 0])

    def test_in_favour_of_the_one_that_goes_before_anyway(self):
        self.assertEqual(both_ways(rule(1, rank=1), rule(-1), first(0, 1)), [1, 0])


class Special(unittest.TestCase):
    def test_by_the_conditions_alone(self):
        self.assertEqual(both_ways(rule(1, (3, 2)), rule(-1, (2,))), [3, 0])
        self.assertEqual(both_ways(rule(1, (2, 3, 4, 5, 6)), rule(-1, (6, 2))), [3, 0])

    def test_the_same_conditions_in_another_order(self):
        self.assertEqual(both_ways(rule(1, (3, 2)), rule(-1, (2, 3))), [0, 0])

    def test_neither(self):
        self.assertEqual(both_ways(rule(1, (2, 3)), rule(-1, (3, 4))), [0, 0])
        self.assertEqual(both_ways(rule(1, (2,)), rule(-1, (-2,))), [0, 0])
        self.assertEqual(both_ways(rule(1, (2, 3, 4)), rule(-1, (5,))), [0, 0])

    def test_by_way_of_strict_rules(self):
        self.assertEqual(both_ways(rule(1, (2,)), rule(-1, (3,)), rule(3, (2,), STRICT)), [3, 0])
        chain = [rule(5, (4,), STRICT), rule(4, (3,), STRICT), rule(3, (2,), STRICT)]
        self.assertEqual(both_ways(rule(1, (5,)), rule(-1, (2,)), *chain), [0, 3])
        self.assertEqual(both_ways(rule(1, (2, 6)), rule(-1, (3, 6)), rule(3, (2, 6), STRICT)), [3, 0])

    def test_strict_rules_both_ways(self):
        told = [rule(3, (2,), STRICT), rule(2, (3,), STRICT)]
        self.assertEqual(both_ways(rule(1, (2,)), rule(-1, (3,)), *told), [0, 0])
        self.assertEqual(both_ways(rule(1, (2, 3)), rule(-1, (3,)), *told), [0, 0])

    def test_a_strict_rule_whose_conditions_do_not_all_follow(self):
        self.assertEqual(both_ways(rule(1, (2,)), rule(-1, (3,)), rule(3, (2, 4), STRICT)), [0, 0])

    def test_usual_rules_and_guards_do_not_count(self):
        for kind in (USUAL, GUARD):
            self.assertEqual(both_ways(rule(1, (2,)), rule(-1, (3,)), rule(3, (2,), kind)), [0, 0])

    def test_facts_do_not_count(self):
        self.assertEqual(both_ways(rule(1, (2,)), rule(-1, (3,)), fact(3)), [0, 0])
        self.assertEqual(both_ways(rule(1, (2,)), rule(-1, (3,)), fact(4), rule(3, (4,), STRICT)), [0, 0])
        self.assertEqual(both_ways(rule(1, (2,)), rule(-1), fact(2)), [3, 0])

    def test_a_strict_rule_without_conditions(self):
        self.assertEqual(both_ways(rule(1, (2,)), rule(-1, (3,)), rule(3, (), STRICT)), [3, 0])
        self.assertEqual(both_ways(rule(1, (2,)), rule(-1), rule(2, (), STRICT)), [0, 0])

    def test_by_the_strict_rule_itself(self):
        self.assertEqual(both_ways(rule(3, (2,), STRICT), rule(-3, (3,))), [3, 0])


class Numbers(unittest.TestCase):
    def test_no_such_rule(self):
        for one, other in ((0, 0), (0, 1), (TOP, TOP)):
            self.assertEqual(last(before(one, other)), -2)
        for past in (2, 3, 19, 20, 2147483648, TOP):
            calls = [rule(1), rule(-1), before(past, 0), before(1, past), before(past, past)]
            self.assertEqual(answered(*calls)[2:], [-2, -2, -2])

    def test_of_twenty_rules(self):
        calls = [*TWENTY_RULES, first(19, 18), before(19, 18), before(18, 19), before(20, 19), before(19, 20)]
        self.assertEqual(answered(*calls)[20:], [0, 1, 0, -2, -2])

    def test_nothing_is_changed(self):
        told = [order(2, 1, 0), rule(1), rule(-1, (2,)), rule(3), first(0, 1), fact(2)]
        for one, other in ((0, 1), (1, 0), (2, 2), (0, 3), (TOP, 0)):
            self.assertEqual(state_after(*told, before(one, other)), state_after(*told))


if __name__ == "__main__":
    unittest.main()
