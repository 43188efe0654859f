"""Which of two rules goes before the other, and by what."""

from ruleexceptions.book import RANK, SPECIAL
from ruleexceptions.following import are_among, strictly_from

NOT_BEFORE = 0
BY_BEING_TOLD = 1
# By the measure: 0 rank, 1 special, 2 day.
BY_MEASURE = (2, 3, 4)


# In leads, the key (one, other) is there only if rule one goes before rule other; its value is by what.
# All pairs at once: they hang on no fact, and are looked up in each round for each set of facts.
def leads_of(book):
    numbers = list(range(len(book.rules)))
    reaches = [strictly_from(book.rules, rule.conditions) for rule in book.rules]
    leads = {}
    for one in numbers:
        for other in numbers:
            by = by_what(book, reaches, one, other)
            if by != NOT_BEFORE:
                leads[(one, other)] = by
    return leads


def by_what(book, reaches, one, other):
    if (one, other) in book.told:
        return BY_BEING_TOLD
    if (other, one) in book.told:
        return NOT_BEFORE
    for measure in book.measures:
        lead = lead_in(measure, book.rules, reaches, one, other)
        if lead > 0:
            return BY_MEASURE[measure]
        if lead < 0:
            return NOT_BEFORE
    return NOT_BEFORE


# Above 0 in favour of one, below 0 in favour of other, 0 if the measure doesn't tell the two apart.
def lead_in(measure, rules, reaches, one, other):
    if measure == RANK:
        return rules[one].rank - rules[other].rank
    if measure == SPECIAL:
        return reaching(rules, reaches, one, other) - reaching(rules, reaches, other, one)
    return rules[one].day - rules[other].day


def reaching(rules, reaches, one, other):
    return 1 if are_among(rules[other].conditions, reaches[one]) else 0
