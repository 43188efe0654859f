"""What has been told of one code, and the calls that tell it."""

WRONG = -1
MISSING = -2
ALREADY = -3
FULL = -5
UNSHOWN = -6

RANK = 0
SPECIAL = 1
# Rank, special, day.
ORDER_AT_FIRST = (0, 1, 2)

STRICT = 0
GUARD = 2

LAST_STATEMENT = 20
MOST_FACTS = 20
MOST_RULES = 20
MOST_CONDITIONS = 5
LAST_RANK = 9
LAST_DAY = 99999


class Rule:
    def __init__(self, kind, rank, day, said, conditions):
        self.kind = kind
        self.rank = rank
        self.day = day
        self.said = said
        self.conditions = tuple(conditions)


# In told, the key (one, other) stands for: rule one goes before rule other.
class Book:
    def __init__(self):
        self.make_empty()

    def make_empty(self):
        self.facts = []
        self.rules = []
        self.told = {}
        self.measures = ORDER_AT_FIRST


def begin(book):
    book.make_empty()
    return 0


def tell_order(book, three):
    if sorted(three) != sorted(ORDER_AT_FIRST):
        return WRONG
    book.measures = tuple(three)
    return 0


def is_statement(number):
    return number != 0 and abs(number) <= LAST_STATEMENT


def tell_fact(book, statement):
    if not is_statement(statement):
        return WRONG
    if statement in book.facts:
        return ALREADY
    if len(book.facts) >= MOST_FACTS:
        return FULL
    book.facts.append(statement)
    return len(book.facts)


# A number that is no statement is no fact either: here that is the one refusal told.
def take_back_fact(book, statement):
    if statement not in book.facts:
        return MISSING
    book.facts.remove(statement)
    return len(book.facts)


def may_be_told(rule):
    if rule.rank > LAST_RANK or rule.day > LAST_DAY:
        return False
    if len(rule.conditions) > MOST_CONDITIONS:
        return False
    if len(set(rule.conditions)) < len(rule.conditions):
        return False
    return is_statement(rule.said) and all([is_statement(each) for each in rule.conditions])


def tell_rule(book, rule):
    if not may_be_told(rule):
        return WRONG
    if len(book.rules) >= MOST_RULES:
        return FULL
    book.rules.append(rule)
    return len(book.rules) - 1


def tell_first(book, one, other):
    if max(one, other) >= len(book.rules):
        return MISSING
    if one == other or (one, other) in book.told or (other, one) in book.told:
        return ALREADY
    book.told[(one, other)] = True
    return 0
