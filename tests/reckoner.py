"""A second reckoning of the document, slow and word by word, that the program's answers are held against."""

import itertools

STATEMENTS = [number for number in range(-20, 21) if number != 0]


def follows_strictly(rules, statements):
    known = set(statements)
    while True:
        more = {said for kind, _, _, said, conditions in rules if kind == 0 and known.issuperset(conditions)}
        if more <= known:
            return known
        known |= more


class Reckoner:
    def __init__(self):
        self.facts, self.rules, self.told, self.order = [], [], [], [0, 1, 2]

    def answers(self, calls):
        """calls is a list of lists here, each as the interface writes it."""
        given = []
        for number, *rest in calls:
            answer = getattr(self, f"call_{number}")(*rest)
            answer = answer if isinstance(answer, list) else [answer]
            given += [len(answer), *answer]
        return given

    def more_special(self, one, other):
        mine, others = set(self.rules[one][4]), set(self.rules[other][4])
        return others <= follows_strictly(self.rules, mine) and not mine <= follows_strictly(self.rules, others)

    def by_what(self, one, other):
        if [one, other] in self.told:
            return 1
        if [other, one] in self.told:
            return 0
        for measure in self.order:
            if measure == 1:
                better, worse = self.more_special(one, other), self.more_special(other, one)
            else:
                column = 1 if measure == 0 else 2
                better = self.rules[one][column] > self.rules[other][column]
                worse = self.rules[one][column] < self.rules[other][column]
            if better or worse:
                return measure + 2 if better else 0
        return 0

    def standing(self, statement):
        return [number for number, each in enumerate(self.rules) if each[3] == statement and each[0] != 2]

    def against(self, statement):
        return [number for number, each in enumerate(self.rules) if each[3] == -statement]

    def all_shown(self, rule, shown):
        return all(each in shown for each in self.rules[rule][4])

    def some_shown(self, rule, shown):
        return any(each in shown for each in self.rules[rule][4])

    def shows(self, rule, statement, holding, failing):
        return self.all_shown(rule, holding) and all(
            self.some_shown(other, failing) or self.by_what(rule, other) for other in self.against(statement))

    def is_out(self, rule, statement, holding, failing):
        return self.some_shown(rule, failing) or any(
            self.all_shown(other, holding) and not self.by_what(rule, other) for other in self.against(statement))

    def rounds(self, facts):
        """What holds and what doesn't, ahead of the first round, behind it, behind the second, and so on."""
        strictly = follows_strictly(self.rules, facts)
        behind = [(frozenset(), frozenset())]
        while True:
            holding, failing = behind[-1]
            held = {each for each in STATEMENTS if each in strictly or (-each not in strictly and any(
                self.shows(rule, each, holding, failing) for rule in self.standing(each)))}
            failed = {each for each in STATEMENTS if each not in strictly and (-each in strictly or all(
                self.is_out(rule, each, holding, failing) for rule in self.standing(each)))}
            if held <= holding and failed <= failing:
                return behind
            behind.append((holding | held, failing | failed))

    def asked(self, statement, facts):
        strictly = follows_strictly(self.rules, facts)
        holding, failing = self.rounds(facts)[-1]
        if statement in strictly and -statement in strictly:
            return 5
        if statement in holding:
            return 1
        if -statement in holding:
            return 2
        if all(any(self.all_shown(rule, holding) for rule in self.standing(each)) for each in (statement, -statement)):
            return 3
        return 0 if statement in failing and -statement in failing else 4

    def named(self, facts):
        said = [each[3] for each in self.rules] + [every for each in self.rules for every in each[4]]
        return sorted({abs(each) for each in [*facts, *said]})

    def call_0(self):
        self.__init__()
        return 0

    def call_1(self, _, *three):
        if sorted(three) != [0, 1, 2]:
            return -1
        self.order = list(three)
        return 0

    def call_2(self, statement):
        if statement not in STATEMENTS:
            return -1
        if statement in self.facts:
            return -3
        if len(self.facts) == 20:
            return -5
        self.facts.append(statement)
        return len(self.facts)

    def call_3(self, statement):
        if statement not in self.facts:
            return -2
        self.facts.remove(statement)
        return len(self.facts)

    def call_4(self, kind, rank, day, said, count, *conditions):
        if rank > 9 or day > 99999 or count > 5 or len(set(conditions)) < count:
            return -1
        if not {said, *conditions} <= set(STATEMENTS):
            return -1
        if len(self.rules) == 20:
            return -5
        self.rules.append((kind, rank, day, said, conditions))
        return len(self.rules) - 1

    def call_5(self, one, other):
        if max(one, other) >= len(self.rules):
            return -2
        if one == other or [one, other] in self.told or [other, one] in self.told:
            return -3
        self.told.append([one, other])
        return 0

    def call_6(self, statement):
        return self.asked(statement, self.facts) if statement in STATEMENTS else -1

    def call_7(self, statement):
        if statement not in STATEMENTS:
            return -1
        if self.asked(statement, self.facts) not in (1, 5):
            return -6
        strictly = follows_strictly(self.rules, self.facts)
        if statement in self.facts:
            return 0
        if statement in strictly:
            return [1, next(number for number, each in enumerate(self.rules)
                            if each[0] == 0 and each[3] == statement and strictly.issuperset(each[4]))]
        behind = self.rounds(self.facts)
        turn = next(turn for turn, (holding, _) in enumerate(behind) if statement in holding)
        holding, failing = behind[turn - 1]
        rule = next(each for each in self.standing(statement) if self.shows(each, statement, holding, failing))
        answer = [2, rule, len(self.against(statement))]
        for other in self.against(statement):
            out = [each for each in self.rules[other][4] if each in failing]
            answer += [other, 0, out[0]] if out else [other, 1, self.by_what(rule, other)]
        return answer

    def call_8(self, one, other):
        return self.by_what(one, other) if max(one, other) < len(self.rules) else -2

    def call_9(self):
        named = self.named(self.facts)
        return [len(named)] + [every for each in named for every in (each, self.asked(each, self.facts))]

    def call_10(self, statement):
        if statement not in STATEMENTS:
            return -1
        then = [*self.facts, statement]
        otherwise = [each for each in self.named(then) if self.asked(each, self.facts) != self.asked(each, then)]
        return [len(otherwise), *otherwise]

    def call_11(self, statement, count, *some):
        if count > 6 or len(set(some)) < count or not {statement, *some} <= set(STATEMENTS):
            return -1
        for size in range(count + 1):
            sets = [each for each in itertools.combinations(some, size)
                    if self.asked(statement, [*self.facts, *each]) == 1]
            if sets:
                return [size, len(sets)] + [every for each in sets for every in each]
        return -6
