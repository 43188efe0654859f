"""What follows strictly from some statements."""

from ruleexceptions.book import STRICT


def are_among(statements, known):
    return all([each in known for each in statements])


def strictly_from(rules, statements):
    following = {}
    for each in statements:
        following[each] = True
    grows = True
    while grows:
        grows = False
        for rule in rules:
            if rule.said not in following and fires_strictly(rule, following):
                following[rule.said] = True
                grows = True
    return following


def fires_strictly(rule, following):
    return rule.kind == STRICT and are_among(rule.conditions, following)
