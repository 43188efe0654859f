import unittest

from tests.helper import (
    ALL_STATEMENTS, BEGINS, GUARD, STRICT, WRONG_STATEMENTS, answered, ask, asked_after, fact, first, last, order, rule,
    state_after, unfact)

# 1 a bird, 2 a penguin, 3 it flies, 4 it has been taught.
BIRDS = [rule(3, (1,)), rule(-3, (2,)), rule(1, (2,), STRICT)]


class Facts(unittest.TestCase):
    def test_each_fact_holds_and_its_opposite_does_not(self):
        for statement in ALL_STATEMENTS:
            self.assertEqual(asked_after([fact(statement)], statement, -statement), [1, 2])

    def test_both_are_facts(self):
        self.assertEqual(asked_after([fact(4), fact(-4)], 4, -4, 5), [5, 5, 0])

    def test_named_by_nothing(self):
        for statement in ALL_STATEMENTS:
            self.assertEqual(last(ask(statement)), 0)
        self.assertEqual(asked_after([fact(1), rule(2, (3,))], 4, -4, 20, -20), [0, 0, 0, 0])

    def test_only_the_opposite_is_named(self):
        self.assertEqual(asked_after([fact(-7)], 7), [2])
        self.assertEqual(asked_after([rule(-7)], 7, -7), [2, 1])
        self.assertEqual(asked_after([rule(-7, (8,))], 7, -7), [0, 0])
        self.assertEqual(asked_after([rule(8, (-7,))], 7, -7), [0, 0])


class Strictly(unittest.TestCase):
    def test_by_a_strict_rule(self):
        self.assertEqual(asked_after([fact(1), rule(2, (1,), STRICT)], 2, -2), [1, 2])
        self.assertEqual(asked_after([rule(2, (), STRICT)], 2, -2), [1, 2])

    def test_by_way_of_others_whatever_the_order_of_the_rules(self):
        chain = [rule(4, (3,), STRICT), rule(3, (2,), STRICT), rule(2, (1,), STRICT)]
        self.assertEqual(asked_after([fact(1), *chain], 2, 3, 4), [1, 1, 1])
        self.assertEqual(asked_after([fact(1), *reversed(chain)], 2, 3, 4), [1, 1, 1])

    def test_all_conditions_are_wanted(self):
        told = [rule(3, (1, 2), STRICT), fact(1)]
        self.assertEqual(asked_after(told, 3), [0])
        self.assertEqual(asked_after([*told, fact(2)], 3), [1])
        self.assertEqual(asked_after([*told, fact(-2)], 3), [0])

    def test_both_follow(self):
        told = [fact(1), rule(2, (1,), STRICT), rule(-2, (1,), STRICT)]
        self.assertEqual(asked_after(told, 2, -2, 1), [5, 5, 1])
        self.assertEqual(asked_after([fact(2), fact(1), rule(-2, (1,), STRICT)], 2, -2), [5, 5])

    def test_rank_and_first_do_not_help_against_what_follows_strictly(self):
        told = [fact(1), rule(2, (1,), STRICT), rule(-2, (1,), STRICT, rank=9, day=9), first(1, 2)]
        self.assertEqual(asked_after(told, 2), [5])
        told = [fact(-2), rule(2, rank=9)]
        self.assertEqual(asked_after(told, 2, -2), [2, 1])
        told = [fact(1), rule(-2, (1,), STRICT), rule(2, (1,), rank=9), first(1, 0)]
        self.assertEqual(asked_after(told, 2, -2), [2, 1])

    def test_what_follows_from_both(self):
        told = [fact(1), fact(-1), rule(2, (1,)), rule(3, (-1,)), rule(4, (1, -1), STRICT)]
        self.assertEqual(asked_after(told, 1, 2, 3, 4), [5, 1, 1, 1])

    def test_what_holds_only_usually_is_not_strict(self):
        told = [rule(1), rule(2, (1,), STRICT), rule(-2, rank=1)]
        self.assertEqual(asked_after(told, 1, 2, -2), [1, 2, 1])

    def test_no_usual_rule_and_no_guard_makes_it_follow_strictly(self):
        for kind in (1, 2):
            told = [fact(1), rule(2, (1,), kind), rule(-2, (1,), STRICT)]
            self.assertEqual(asked_after(told, 2, -2), [2, 1])


class ByRules(unittest.TestCase):
    def test_nothing_against_it(self):
        self.assertEqual(asked_after([fact(1), rule(2, (1,))], 2, -2), [1, 2])
        self.assertEqual(asked_after([rule(2)], 2, -2), [1, 2])

    def test_a_condition_does_not_hold(self):
        self.assertEqual(asked_after([rule(2, (1,))], 2, -2), [0, 0])
        self.assertEqual(asked_after([fact(-1), rule(2, (1,))], 2, -2), [0, 0])
        self.assertEqual(asked_after([fact(1), rule(2, (1, 3))], 2, -2), [0, 0])

    def test_that_one_is_not_shown_does_not_make_its_opposite_hold(self):
        self.assertEqual(asked_after([rule(2, (-1,))], 2, 1, -1), [0, 0, 0])

    def test_through_many_rounds(self):
        chain = [rule(number + 1, (number,)) for number in range(19, 0, -1)]
        self.assertEqual(asked_after([fact(1), *chain], 20, 2, -20), [1, 1, 2])
        self.assertEqual(asked_after(chain, 20, 2, -20), [0, 0, 0])

    def test_one_rule_has_to_meet_all_that_stand_against_it(self):
        # Rule 0 goes before rule 2 by its rank, rule 1 before rule 3 as it's told: neither before both.
        told = [rule(1, rank=5), rule(1, rank=1), rule(-1, rank=4), rule(-1, rank=9), first(1, 3)]
        self.assertEqual(asked_after(told, 1, -1), [3, 3])
        self.assertEqual(asked_after([*told, first(0, 3)], 1, -1), [1, 2])

    def test_a_rule_against_it_whose_condition_does_not_hold(self):
        self.assertEqual(asked_after([rule(1), rule(-1, (2,), rank=9)], 1, -1), [1, 2])
        self.assertEqual(asked_after([rule(1), rule(-1, (2,), rank=9), fact(2)], 1, -1), [2, 1])

    def test_a_higher_rule_that_is_not_ready_does_not_help(self):
        told = [rule(1, (2,), rank=9), rule(1, rank=1), rule(-1, rank=5)]
        self.assertEqual(asked_after(told, 1, -1), [2, 1])
        self.assertEqual(asked_after([*told, fact(2)], 1, -1), [1, 2])

    def test_the_newer_one(self):
        self.assertEqual(asked_after([rule(1, day=8), rule(-1, day=7)], 1), [1])
        self.assertEqual(asked_after([rule(1, day=8), rule(-1, day=9)], 1), [2])


class Contested(unittest.TestCase):
    def test_neither_goes_before_the_other(self):
        self.assertEqual(asked_after([rule(1), rule(-1)], 1, -1), [3, 3])
        self.assertEqual(asked_after([fact(2), fact(3), rule(1, (2,)), rule(-1, (3,))], 1, -1), [3, 3])

    def test_what_hangs_on_a_contested_one(self):
        self.assertEqual(asked_after([rule(1), rule(-1), rule(2, (1,)), rule(3, (-1,))], 2, 3), [0, 0])

    def test_the_lower_one_counts_too(self):
        # A guard stops the higher one, which in its turn stops the lower one.
        told = [rule(1, rank=3), rule(-1, rank=2), rule(-1, kind=GUARD, rank=4)]
        self.assertEqual(asked_after(told, 1, -1), [3, 3])

    def test_a_guard_does_not_contest(self):
        self.assertEqual(asked_after([rule(1), rule(-1, kind=GUARD)], 1, -1), [0, 0])
        self.assertEqual(asked_after([rule(-1), rule(1, kind=GUARD)], 1, -1), [0, 0])

    def test_conditions_not_shown_do_not_contest(self):
        loop = [rule(2, (3,)), rule(3, (2,))]
        self.assertEqual(asked_after([*loop, rule(1), rule(-1, (2,))], 1, -1), [4, 4])

    def test_strict_rules_by_what_holds_usually(self):
        told = [rule(2), rule(1, (2,), STRICT), rule(-1, (2,), STRICT)]
        self.assertEqual(asked_after(told, 1, -1), [3, 3])


class Guards(unittest.TestCase):
    def test_a_guard_stands_for_nothing(self):
        self.assertEqual(asked_after([rule(1, kind=GUARD)], 1, -1), [0, 0])
        self.assertEqual(asked_after([rule(1, kind=GUARD), rule(2, (1,))], 2), [0])

    def test_a_guard_stands_against(self):
        self.assertEqual(asked_after([rule(1), rule(-1, kind=GUARD, rank=1)], 1, -1), [0, 0])

    def test_a_guard_is_met_like_others(self):
        self.assertEqual(asked_after([rule(1, rank=1), rule(-1, kind=GUARD)], 1, -1), [1, 2])
        self.assertEqual(asked_after([rule(1), rule(-1, (2,), GUARD)], 1, -1), [1, 2])
        self.assertEqual(asked_after([rule(1), rule(-1, kind=GUARD), first(0, 1)], 1, -1), [1, 2])

    def test_a_guard_does_not_meet_the_other_ones(self):
        self.assertEqual(asked_after([rule(1, kind=GUARD, rank=9), rule(-1)], 1, -1), [0, 0])
        told = [rule(1, kind=GUARD, rank=9), rule(1), rule(-1, rank=5)]
        self.assertEqual(asked_after(told, 1, -1), [3, 3])


class Open(unittest.TestCase):
    def test_two_rules_that_hang_on_one_another(self):
        for kind in (0, 1):
            told = [rule(1, (2,), kind), rule(2, (1,), kind)]
            self.assertEqual(asked_after(told, 1, 2, -1, -2), [4, 4, 4, 4])

    def test_a_rule_that_hangs_on_itself(self):
        self.assertEqual(asked_after([rule(1, (1,))], 1, -1), [4, 4])
        self.assertEqual(asked_after([rule(1, (-1,))], 1, -1), [0, 0])

    def test_each_stops_the_other(self):
        told = [rule(1), rule(-1, (2,), rank=1), rule(2), rule(-2, (1,), rank=1)]
        self.assertEqual(asked_after(told, 1, 2, -1, -2), [4, 4, 4, 4])
        told = [rule(1, rank=1), rule(-1, (2,)), rule(2, rank=1), rule(-2, (1,))]
        self.assertEqual(asked_after(told, 1, 2, -1, -2), [1, 1, 2, 2])

    def test_a_third_rule_breaks_the_ring(self):
        ring = [rule(1, (2,)), rule(2, (1,))]
        self.assertEqual(asked_after([*ring, rule(2)], 1, 2), [1, 1])
        self.assertEqual(asked_after([*ring, fact(-1)], 1, 2), [2, 0])

    def test_what_hangs_on_an_open_one(self):
        ring = [rule(1, (2,)), rule(2, (1,))]
        self.assertEqual(asked_after([*ring, rule(3, (1,)), rule(4, (1, 5))], 3, 4), [4, 0])


class AskedAgain(unittest.TestCase):
    def test_after_one_more_fact_and_after_it_is_taken_back(self):
        calls = [*BIRDS, ask(3), fact(1), ask(3), fact(2), ask(3), unfact(2), ask(3), unfact(1), ask(3)]
        self.assertEqual(answered(*calls)[3:], [0, 1, 1, 2, 2, 1, 1, 0, 0])

    def test_after_first(self):
        calls = [*BIRDS, fact(2), ask(3), first(0, 1), ask(3), ask(-3)]
        self.assertEqual(answered(*calls)[4:], [2, 0, 1, 2])

    def test_after_order(self):
        told = [rule(3, (1,), rank=1, day=2), rule(-3, (1, 2), rank=0, day=3), fact(1), fact(2)]
        calls = [ask(3), order(1, 0, 2), ask(3), order(0, 1, 2), ask(3), order(2, 0, 1), ask(3)]
        self.assertEqual(answered(*told, *calls)[4:], [1, 0, 2, 0, 1, 0, 2])

    def test_after_one_more_rule(self):
        calls = [rule(1), ask(1), rule(-1), ask(1), rule(1, rank=1), ask(1), rule(-1, kind=GUARD, rank=2), ask(1)]
        self.assertEqual(answered(*calls)[1::2], [1, 3, 1, 3])

    def test_after_begins(self):
        self.assertEqual(answered(fact(1), ask(1), BEGINS, ask(1)), [1, 1, 0, 0])

    def test_after_a_refusal(self):
        calls = [fact(1), fact(1), fact(0), rule(-1, (2, 2)), unfact(2), first(0, 1), ask(1)]
        self.assertEqual(answered(*calls), [1, -3, -1, -1, -2, -2, 1])


class Wrong(unittest.TestCase):
    def test_no_statement(self):
        for statement in WRONG_STATEMENTS:
            self.assertEqual(last(ask(statement)), -1)
            self.assertEqual(last(fact(20), rule(1), ask(statement)), -1)

    def test_at_the_edges(self):
        self.assertEqual(asked_after([fact(20), fact(-19)], 20, -20, 21, -21, 19, 0), [1, 2, -1, -1, 2, -1])

    def test_nothing_is_changed(self):
        told = [order(2, 1, 0), *BIRDS, fact(2), first(0, 1)]
        for statement in (3, -3, 9, 0, 21, -21):
            self.assertEqual(state_after(*told, ask(statement)), state_after(*told))


if __name__ == "__main__":
    unittest.main()
