"""What the document promises over the whole program, on lists made by a rule of their own from a number."""

import random
import unittest

from ruleexceptions.code import answers
from tests.helper import (
    ALL, ALL_STATEMENTS, STRICT, ask, before, changes, fact, fewest, first, joined, order, parted, rule,
    state_after, unfact, why)
from tests.reckoner import Reckoner


class Maker:
    """Makes calls about the statements up to top: few of them, so that the rules meet one another."""

    def __init__(self, number):
        self.chance = random.Random(number)
        self.top = self.chance.choice((2, 3, 4, 6, 9))
        self.strict = self.chance.choice((0, 1, 4))

    def statement(self):
        return self.chance.choice((-1, 1)) * self.chance.randint(1, self.top)

    def unlike(self, most):
        return tuple(dict.fromkeys(self.statement() for _ in range(self.chance.randint(0, most))))

    def rule(self, said=None, conditions=None):
        kind = self.chance.choices((0, 1, 2), (self.strict, 4, 1))[0]
        said = self.statement() if said is None else said
        conditions = self.unlike(self.chance.choice((0, 1, 2, 5))) if conditions is None else conditions
        return rule(said, conditions, kind, self.chance.randint(0, 2), self.chance.randint(0, 2))

    def first(self):
        return first(self.chance.randint(0, 9), self.chance.randint(0, 9))

    def order(self):
        return order(*self.chance.sample((0, 1, 2), 3))

    def fact(self):
        return fact(self.statement())

    def telling(self, facts=3, rules=12):
        made = [self.rule() for _ in range(rules)] + [self.fact() for _ in range(facts)]
        self.chance.shuffle(made)
        return made + [self.order()] + [self.first() for _ in range(4)]

    def asking(self, singles=26, wholes=10):
        calls = [ask(self.statement()) for _ in range(6)] + [why(self.statement()) for _ in range(12)]
        calls += [before(self.chance.randint(0, 9), self.chance.randint(0, 9)) for _ in range(8)]
        whole = [ALL, ALL, changes(self.statement()), changes(self.statement()), changes(-20)]
        whole += [fewest(self.statement(), *self.unlike(6)) for _ in range(5)]
        return self.chance.sample(calls, singles) + self.chance.sample(whole, wholes)

    def mixed(self):
        calls = self.telling() + [unfact(self.statement()) for _ in range(3)] + self.asking()
        self.chance.shuffle(calls)
        return calls


def named_answers(told):
    """By each statement that the told ones may name: what ask and what why answer of it."""
    statements = [each for each in ALL_STATEMENTS if abs(each) <= 9]
    asking = [ask(each) for each in statements] + [why(each) for each in statements]
    given = parted(answers(joined(told + asking)))[len(told):]
    asked = {each: part[0] for each, part in zip(statements, given)}
    return asked, dict(zip(statements, given[len(statements):]))


class Against(unittest.TestCase):
    """The program and the second reckoning answer alike."""

    def alike(self, calls):
        self.assertLessEqual(len(calls), 60)
        self.assertEqual(answers(joined(calls)), Reckoner().answers(calls), calls)

    def test_first_told_then_asked(self):
        for number in range(60):
            maker = Maker(number)
            self.alike(maker.telling(maker.chance.randint(0, 4), maker.chance.randint(0, 15)) + maker.asking())

    def test_told_and_asked_by_turns(self):
        for number in range(60):
            self.alike(Maker(number).mixed())

    def test_each_answer_comes_about(self):
        asked, whys = set(), set()
        for number in range(60):
            answers_of = named_answers(Maker(number).telling())
            asked |= set(answers_of[0].values())
            whys |= {each[0] for each in answers_of[1].values()}
        self.assertEqual((asked, whys), ({0, 1, 2, 3, 4, 5}, {-6, 0, 1, 2}))

    def test_sixty_calls_of_the_largest(self):
        for number in range(3):
            maker = Maker(number)
            chance = maker.chance
            told = [fact(each) for each in chance.sample(ALL_STATEMENTS, 20)]
            for _ in range(20):
                said, *conditions = chance.sample(ALL_STATEMENTS, 6)
                told.append(maker.rule(said, conditions))
            some = [chance.sample(ALL_STATEMENTS, 7) for _ in range(5)]
            whole = [ALL, ALL, changes(-20), changes(1), changes(20)] + [fewest(*each) for each in some]
            others = [maker.first(), maker.order(), before(19, 3), before(3, 19), ask(1), ask(-20), why(20)]
            others += [why(each) for each in (-1, -2, -3)]
            calls = told + others[:4] + whole + others[4:]
            self.assertEqual((len(told), len(whole), len(calls)), (40, 10, 60))
            self.alike(calls)

    def test_sixty_calls_through_many_rounds(self):
        chain = [rule(number + 1, (number, -number - 1, 1, 2, 3)) for number in range(1, 20)]
        facts = [fact(number) for number in ALL_STATEMENTS if abs(number) <= 10]
        told = [*facts, *chain, rule(-20, (1, 2, 3, 4, 5), rank=1)]
        whole = [fewest(20, -19, -18, -17, -16, -15, -14)] * 5 + [changes(-20), changes(-11), changes(11), ALL, ALL]
        calls = told + [ask(number) for number in range(11, 21)] + whole
        self.assertEqual(len(calls), 60)
        self.alike(calls)


class Promised(unittest.TestCase):
    def test_no_statement_holds_together_with_its_opposite(self):
        mirrored = {0: 0, 1: 2, 2: 1, 3: 3, 4: 4, 5: 5}
        for number in range(50):
            asked, whys = named_answers(Maker(number).telling())
            for each in asked:
                self.assertEqual(asked[-each], mirrored[asked[each]])
                self.assertEqual(whys[each] != [-6], asked[each] in (1, 5))

    def test_both_only_if_the_facts_say_both(self):
        for number in range(50):
            told = [each for each in Maker(number).telling(facts=6) if each[:2] != [4, STRICT]]
            facts = [each[1] for each in told if each[0] == 2]
            asked = named_answers(told)[0]
            for each in asked:
                self.assertEqual(asked[each] == 5, each in facts and -each in facts)

    def test_a_reason_does_not_hang_on_itself(self):
        for number in range(50):
            told = Maker(number).telling(facts=1)
            asked, whys = named_answers(told)
            rules = [each[6:] for each in told if each[0] == 4]
            left = {each: rules[whys[each][1]] for each in asked if whys[each][0] == 2}
            for each in left:
                self.assertTrue(all(asked[condition] in (1, 5) for condition in left[each]))
            while left:
                free = [each for each in left if not set(left[each]) & set(left)]
                self.assertNotEqual(free, [], told)
                left = {each: left[each] for each in left if each not in free}

    def test_where_no_rule_hangs_on_itself_nothing_is_left_open(self):
        for number in range(50):
            maker = Maker(number)
            rules = []
            for _ in range(16):
                said = maker.chance.randint(2, 9)
                below = [each for each in ALL_STATEMENTS if abs(each) < said]
                conditions = maker.chance.sample(below, maker.chance.randint(0, 2))
                rules.append(maker.rule(maker.chance.choice((-1, 1)) * said, conditions))
            told = rules + [maker.fact(), maker.order(), maker.first()]
            self.assertNotIn(4, named_answers(told)[0].values(), told)


class Asking(unittest.TestCase):
    def test_what_only_asks_changes_nothing(self):
        for number in range(40):
            maker = Maker(number)
            told, asking = maker.telling(), maker.asking()
            self.assertEqual(state_after(*told, *asking), state_after(*told))

    def test_asked_again_they_answer_the_same(self):
        for number in range(40):
            maker = Maker(number)
            told = maker.telling()
            asking = maker.asking(9, 5)
            once = parted(answers(joined(told + asking + asking)))
            self.assertEqual(once[len(told):-14], once[-14:])
            self.assertEqual(once[len(told):-14], parted(answers(joined(told + asking)))[len(told):])
            turned = parted(answers(joined(told + asking[::-1])))
            self.assertEqual(turned[len(told):][::-1], once[-14:])

    def test_the_same_list_twice_and_as_it_was(self):
        for number in range(40):
            calls = joined(Maker(number).mixed())
            as_it_was = list(calls)
            self.assertEqual(answers(calls), answers(calls))
            self.assertEqual(calls, as_it_was)

    def test_facts_told_in_another_order(self):
        for number in range(40):
            maker = Maker(number)
            told, asking = maker.telling(), maker.asking()
            facts = [each for each in told if each[0] == 2]
            others = [each for each in told if each[0] != 2]
            one = parted(answers(joined(facts + others + asking)))
            other = parted(answers(joined(facts[::-1] + others + asking)))
            self.assertEqual(one[len(facts):], other[len(facts):])


if __name__ == "__main__":
    unittest.main()
