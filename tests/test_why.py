import unittest

from tests.helper import (
    ALL_STATEMENTS, GUARD, STRICT, USUAL, WRONG_STATEMENTS, ask, answered, fact, first, last, order, rule, state_after,
    unfact, why)


class OfFacts(unittest.TestCase):
    def test_each_fact(self):
        for statement in ALL_STATEMENTS:
            self.assertEqual(last(fact(statement), why(statement)), 0)

    def test_a_fact_that_rules_say_too(self):
        self.assertEqual(last(rule(1, (), STRICT), rule(1), fact(1), why(1)), 0)
        self.assertEqual(last(rule(1), rule(-1, rank=9), fact(1), why(1)), 0)

    def test_a_fact_taken_back(self):
        calls = [rule(1, (), STRICT), fact(1), why(1), unfact(1), why(1)]
        self.assertEqual(answered(*calls)[2:], [0, 0, [1, 0]])


class Strictly(unittest.TestCase):
    def test_by_a_strict_rule(self):
        self.assertEqual(last(fact(1), rule(2, (1,), STRICT), why(2)), [1, 0])
        self.assertEqual(last(rule(3), rule(-2, (), STRICT), why(-2)), [1, 1])

    def test_by_way_of_others(self):
        told = [rule(4, (3, 2), STRICT), rule(3, (2,), STRICT), rule(2, (1,), STRICT), fact(1)]
        self.assertEqual(answered(*told, why(2), why(3), why(4))[4:], [[1, 2], [1, 1], [1, 0]])

    def test_the_first_whose_conditions_follow(self):
        told = [rule(2, (3,), STRICT), rule(2, (1, 3), STRICT), rule(2, (1,), STRICT), rule(2, (), STRICT), fact(1)]
        self.assertEqual(last(*told, why(2)), [1, 2])
        self.assertEqual(last(*told, unfact(1), why(2)), [1, 3])
        self.assertEqual(last(*told, fact(3), why(2)), [1, 0])

    def test_a_condition_that_holds_only_usually_does_not_follow(self):
        told = [rule(3), rule(2, (3,), STRICT), rule(2, (1,), STRICT), fact(1)]
        self.assertEqual(last(*told, why(2)), [1, 2])

    def test_usual_rules_and_guards_are_passed_over(self):
        told = [rule(2, (1,), USUAL, rank=9), rule(2, (1,), GUARD), rule(2, (1,), STRICT), fact(1)]
        self.assertEqual(last(*told, why(2)), [1, 2])

    def test_rules_against_it_are_not_told(self):
        told = [fact(1), rule(-2, (1,), rank=9), rule(2, (1,), STRICT), first(0, 1)]
        self.assertEqual(last(*told, why(2)), [1, 1])

    def test_the_first_one_though_it_hangs_on_what_it_says(self):
        told = [rule(2, (3,), STRICT), rule(3, (2,), STRICT), rule(2, (1,), STRICT), fact(1)]
        self.assertEqual(answered(*told, why(2), why(3))[4:], [[1, 0], [1, 1]])


class Both(unittest.TestCase):
    def test_facts(self):
        self.assertEqual(answered(fact(1), fact(-1), why(1), why(-1))[2:], [0, 0])

    def test_one_fact_and_one_that_follows(self):
        told = [fact(1), fact(2), rule(-2, (1,), STRICT)]
        self.assertEqual(answered(*told, ask(2), ask(-2), why(2), why(-2))[3:], [5, 5, 0, [1, 0]])

    def test_both_follow(self):
        told = [fact(1), rule(2, (1,), STRICT), rule(-2, (1,), STRICT)]
        self.assertEqual(answered(*told, why(2), why(-2))[3:], [[1, 0], [1, 1]])


class ByRule(unittest.TestCase):
    def test_no_rule_against_it(self):
        self.assertEqual(last(rule(2), why(2)), [2, 0, 0])
        self.assertEqual(last(rule(3), rule(-2, (3,)), why(-2)), [2, 1, 0])

    def test_a_strict_rule_by_what_holds_usually(self):
        self.assertEqual(last(rule(1), rule(2, (1,), STRICT), why(2)), [2, 1, 0])

    def test_in_a_later_round_with_many_against_it(self):
        told = [
            rule(2, (1,)), rule(3, (2,), rank=5, day=50), rule(-3, (4,)), rule(-3, (), GUARD, rank=9),
            rule(-3, rank=4), rule(-3, rank=5, day=60), rule(-3, (2,), rank=5, day=49),
            rule(-3, (1, 5, 6), STRICT, rank=9), rule(3, (7,)), fact(1), first(1, 3)]
        expected = [2, 1, 6, 2, 0, 4, 3, 1, 1, 4, 1, 2, 5, 1, 3, 6, 1, 4, 7, 0, 5]
        self.assertEqual(last(*told, why(3)), expected)
        self.assertEqual(last(*told, ask(3)), 1)

    def test_by_each_of_the_four(self):
        self.assertEqual(last(rule(-1, rank=9), rule(1), first(1, 0), why(1)), [2, 1, 1, 0, 1, 1])
        self.assertEqual(last(rule(-1), rule(1, rank=1), why(1)), [2, 1, 1, 0, 1, 2])
        self.assertEqual(last(fact(2), rule(-1), rule(1, (2,)), why(1)), [2, 1, 1, 0, 1, 3])
        self.assertEqual(last(rule(-1), rule(1, day=1), why(1)), [2, 1, 1, 0, 1, 4])

    def test_by_the_order_told(self):
        told = [fact(2), rule(-1), rule(1, (2,), rank=1, day=1)]
        for three, by in (((0, 1, 2), 2), ((1, 0, 2), 3), ((2, 1, 0), 4)):
            self.assertEqual(last(*told, order(*three), why(1)), [2, 1, 1, 0, 1, by])

    def test_kinds_against_it(self):
        told = [rule(1, rank=5), rule(-1, kind=GUARD), rule(-1, (3,), STRICT), rule(-1)]
        self.assertEqual(last(*told, why(1)), [2, 0, 3, 1, 1, 2, 2, 1, 2, 3, 1, 2])

    def test_of_a_statement_below_nought(self):
        told = [rule(1), rule(-1, rank=1), rule(1, kind=GUARD)]
        self.assertEqual(last(*told, why(-1)), [2, 1, 2, 0, 1, 2, 2, 1, 2])


class Rounds(unittest.TestCase):
    def test_a_condition_shown_not_to_hold_in_the_round_before(self):
        # 2 is shown not to hold in round 1, 1 to hold in round 2.
        self.assertEqual(last(rule(1), rule(-1, (2,)), why(1)), [2, 0, 1, 1, 0, 2])

    def test_the_condition_counts_though_the_rule_goes_before_as_well(self):
        told = [fact(3), rule(1, (3,), rank=9), rule(-1, (2,))]
        self.assertEqual(last(*told, why(1)), [2, 0, 1, 1, 0, 2])
        self.assertEqual(last(*told, first(0, 1), why(1)), [2, 0, 1, 1, 0, 2])

    def test_a_condition_shown_not_to_hold_in_the_same_round(self):
        self.assertEqual(last(rule(1, rank=9), rule(-1, (2,)), why(1)), [2, 0, 1, 1, 1, 2])

    def test_a_condition_shown_not_to_hold_only_later(self):
        # 1 is shown in round 1 by its rank; 3 doesn't hold from round 1 on, 2 from round 2 on.
        told = [rule(1, rank=9), rule(-1, (2,)), rule(2, (3,))]
        self.assertEqual(answered(*told, ask(2), why(1))[3:], [0, [2, 0, 1, 1, 1, 2]])
        # 1 is shown in round 2 here: of rule 1 condition 3 is out then, condition 2 only behind it.
        told = [fact(4), rule(1, (4,), rank=9), rule(-1, (2, 3)), rule(2, (3,)), rule(-1, (2,))]
        self.assertEqual(last(*told, why(1)), [2, 0, 2, 1, 0, 3, 3, 1, 2])

    def test_the_first_condition_of_several(self):
        told = [rule(1), rule(-1, (2, 3, 4)), fact(2)]
        self.assertEqual(last(*told, why(1)), [2, 0, 1, 1, 0, 3])
        told = [rule(1), rule(-1, (5, -4, 3))]
        self.assertEqual(last(*told, why(1)), [2, 0, 1, 1, 0, 5])

    def test_the_opposite_of_what_holds_is_a_condition_that_does_not(self):
        self.assertEqual(last(fact(2), rule(1), rule(-1, (-2,)), why(1)), [2, 0, 1, 1, 0, -2])

    def test_the_first_rule_in_the_first_round(self):
        # Rule 0 would show it in round 2, rules 1 and 2 show it in round 1.
        self.assertEqual(last(fact(2), rule(1, (2,)), rule(1), rule(1), why(1)), [2, 1, 0])
        self.assertEqual(last(rule(2), rule(3, (2,)), rule(1, (3,)), rule(1, (2,)), why(1)), [2, 3, 0])

    def test_a_round_takes_nothing_that_it_shows_itself(self):
        # 3 doesn't hold from round 1 on, so 4 holds from round 2 on: too late for rule 0, as rule 1 shows 1 by then.
        told = [fact(2), rule(1, (4,)), rule(1, (2,)), rule(4), rule(-4, (3,))]
        self.assertEqual(last(*told, why(1)), [2, 1, 0])
        # 2 holds from round 1 on, so 5 doesn't from round 2 on: 1 is shown by then, with 7 alone out.
        told = [fact(2), fact(6), rule(5), rule(-5, (2,)), rule(1, (6,)), rule(-1, (5, 7))]
        self.assertEqual(last(*told, why(1)), [2, 2, 1, 3, 0, 7])

    def test_a_rule_that_does_not_meet_all_is_passed_over(self):
        told = [rule(1), rule(-1, rank=4), rule(1, rank=5), rule(1, rank=6)]
        self.assertEqual(last(*told, why(1)), [2, 2, 1, 1, 1, 2])

    def test_a_guard_that_says_it_is_passed_over(self):
        self.assertEqual(last(rule(1, kind=GUARD), rule(1), why(1)), [2, 1, 0])

    def test_through_many_rounds(self):
        chain = [rule(number + 1, (number,)) for number in range(1, 20)]
        self.assertEqual(last(*chain, rule(-20), fact(1), why(20)), [2, 18, 1, 19, 1, 3])


class Refused(unittest.TestCase):
    def test_no_statement(self):
        for statement in WRONG_STATEMENTS:
            self.assertEqual(last(why(statement)), -1)
            self.assertEqual(last(fact(1), rule(2), why(statement)), -1)

    def test_nothing(self):
        for statement in ALL_STATEMENTS:
            self.assertEqual(last(why(statement)), -6)
        self.assertEqual(last(rule(1, (2,)), why(1)), -6)
        self.assertEqual(last(rule(1, kind=GUARD), why(1)), -6)

    def test_the_opposite_holds(self):
        self.assertEqual(last(fact(1), why(-1)), -6)
        self.assertEqual(last(rule(1, rank=1), rule(-1), why(-1)), -6)
        self.assertEqual(last(rule(1), rule(-1, (), STRICT), first(0, 1), why(1)), -6)
        self.assertEqual(last(fact(-1), rule(1, rank=9), why(1)), -6)

    def test_contested(self):
        self.assertEqual(answered(rule(1), rule(-1), why(1), why(-1))[2:], [-6, -6])

    def test_open(self):
        self.assertEqual(answered(rule(1, (2,)), rule(2, (1,)), why(1), why(-2))[2:], [-6, -6])

    def test_nothing_is_changed(self):
        told = [order(2, 1, 0), rule(1, day=2), rule(-1), rule(2, (3,), STRICT), first(0, 1), fact(3)]
        for statement in (1, -1, 2, 3, 4, 0, 21):
            self.assertEqual(state_after(*told, why(statement)), state_after(*told))


if __name__ == "__main__":
    unittest.main()
