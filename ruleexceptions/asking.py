"""The calls that ask of the code as it stands: ask, why, before, all."""

from ruleexceptions.book import MISSING, UNSHOWN, WRONG, is_statement
from ruleexceptions.following import fires_strictly
from ruleexceptions.precedence import NOT_BEFORE, leads_of
from ruleexceptions.showing import Contest, Showing, failing_condition, is_ready, show_all, show_till_rule

NOTHING = 0
HOLDS = 1
OPPOSITE_HOLDS = 2
CONTESTED = 3
UNDECIDED = 4
BOTH = 5

IS_FACT = 0
FOLLOWS_STRICTLY = 1
BY_RULE = 2

BY_CONDITION = 0
BY_GOING_BEFORE = 1


def ask(book, statement):
    if not is_statement(statement):
        return [WRONG]
    return [asked(show_all(Contest(book), book.facts), statement)]


def asked(showing, statement):
    opposite = -statement
    if statement in showing.strictly and opposite in showing.strictly:
        return BOTH
    if statement in showing.holding:
        return HOLDS
    if opposite in showing.holding:
        return OPPOSITE_HOLDS
    if has_ready_rule(showing, statement) and has_ready_rule(showing, opposite):
        return CONTESTED
    if statement in showing.failing and opposite in showing.failing:
        return NOTHING
    return UNDECIDED


def has_ready_rule(showing, statement):
    return any([is_ready(showing, number) for number in showing.contest.standing_for[statement]])


# What is answered 1 or 5 is a fact, follows strictly or is shown by a rule: so the last refusal stands for all else.
def tell_why(book, statement):
    if not is_statement(statement):
        return [WRONG]
    if statement in book.facts:
        return [IS_FACT]
    showing = Showing(Contest(book), book.facts)
    if statement in showing.strictly:
        return [FOLLOWS_STRICTLY, first_strict_rule(showing, statement)]
    number = show_till_rule(showing, statement)
    if number is None:
        return [UNSHOWN]
    against = showing.contest.standing_against[statement]
    answer = [BY_RULE, number, len(against)]
    for each in against:
        answer.extend(how_met(showing, number, each))
    return answer


def first_strict_rule(showing, statement):
    rules = showing.contest.rules
    numbers = showing.contest.standing_for[statement]
    return min([number for number in numbers if fires_strictly(rules[number], showing.strictly)])


def how_met(showing, number, against):
    condition = failing_condition(showing, against)
    if condition is None:
        return [against, BY_GOING_BEFORE, showing.contest.leads[(number, against)]]
    return [against, BY_CONDITION, condition]


def tell_before(book, one, other):
    if max(one, other) >= len(book.rules):
        return [MISSING]
    return [leads_of(book).get((one, other), NOT_BEFORE)]


def tell_all(book):
    showing = show_all(Contest(book), book.facts)
    named = named_above_nought(book.rules, book.facts)
    answer = [len(named)]
    for each in named:
        answer.extend([each, asked(showing, each)])
    return answer


def named_above_nought(rules, facts):
    named = [abs(each) for each in facts]
    for rule in rules:
        named.append(abs(rule.said))
        named.extend([abs(each) for each in rule.conditions])
    return sorted(set(named))
