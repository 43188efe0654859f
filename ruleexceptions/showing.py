"""Shows, round by round, what holds and what doesn't."""

from ruleexceptions.book import GUARD, LAST_STATEMENT
from ruleexceptions.following import are_among, strictly_from
from ruleexceptions.precedence import leads_of


# How the rules stand to the statements and to one another. It hangs on no fact: one will do for many sets of facts.
class Contest:
    def __init__(self, book):
        self.rules = tuple(book.rules)
        self.leads = leads_of(book)
        self.statements = [each for each in range(-LAST_STATEMENT, LAST_STATEMENT + 1) if each != 0]
        self.standing_for = {}
        self.standing_against = {}
        for each in self.statements:
            self.standing_for[each] = rules_for(self.rules, each)
            self.standing_against[each] = rules_that_say(self.rules, -each)


def rules_that_say(rules, statement):
    return [number for number, rule in enumerate(rules) if rule.said == statement]


def rules_for(rules, statement):
    return [number for number in rules_that_say(rules, statement) if rules[number].kind != GUARD]


# What has been shown so far: at first nothing. Left is what has been shown neither to hold nor not to hold.
class Showing:
    def __init__(self, contest, facts):
        self.contest = contest
        self.strictly = strictly_from(contest.rules, facts)
        self.holding = {}
        self.failing = {}
        self.left = list(contest.statements)


def show_all(contest, facts):
    showing = Showing(contest, facts)
    while show_round(showing):
        pass
    return showing


# Stops ahead of the round in which a rule first shows the statement, so that showing keeps what was shown by then.
def show_till_rule(showing, statement):
    number = rule_that_shows(showing, statement)
    while number is None and show_round(showing):
        number = rule_that_shows(showing, statement)
    return number


# Both lists are made before anything is noted: a round takes only what the rounds before it have shown.
def show_round(showing):
    held = [each for each in showing.left if holds(showing, each)]
    failed = [each for each in showing.left if fails(showing, each)]
    for each in held:
        showing.holding[each] = True
    for each in failed:
        showing.failing[each] = True
    decided = held + failed
    showing.left = [each for each in showing.left if each not in decided]
    return len(decided) > 0


def holds(showing, statement):
    return statement in showing.strictly or rule_that_shows(showing, statement) is not None


def rule_that_shows(showing, statement):
    if -statement in showing.strictly:
        return None
    for number in showing.contest.standing_for[statement]:
        if is_ready(showing, number) and meets_all_against(showing, number, statement):
            return number
    return None


def is_ready(showing, number):
    return are_among(showing.contest.rules[number].conditions, showing.holding)


def meets_all_against(showing, number, statement):
    for against in showing.contest.standing_against[statement]:
        if (number, against) not in showing.contest.leads and failing_condition(showing, against) is None:
            return False
    return True


def failing_condition(showing, number):
    for each in showing.contest.rules[number].conditions:
        if each in showing.failing:
            return each
    return None


def fails(showing, statement):
    if statement in showing.strictly:
        return False
    if -statement in showing.strictly:
        return True
    return all([is_out(showing, number, statement) for number in showing.contest.standing_for[statement]])


def is_out(showing, number, statement):
    if failing_condition(showing, number) is not None:
        return True
    for against in showing.contest.standing_against[statement]:
        if (number, against) not in showing.contest.leads and is_ready(showing, against):
            return True
    return False
