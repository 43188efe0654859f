"""The calls that ask what would be, were there more facts: changes, fewest."""

from ruleexceptions.asking import HOLDS, asked, named_above_nought
from ruleexceptions.book import UNSHOWN, WRONG, is_statement
from ruleexceptions.showing import Contest, show_all

MOST_SUPPOSED = 6


# No fact is told here, so 20 facts are no bar to one more: the document tells no such refusal.
def tell_changes(book, statement):
    if not is_statement(statement):
        return [WRONG]
    contest = Contest(book)
    supposed = book.facts + [statement]
    now = show_all(contest, book.facts)
    then = show_all(contest, supposed)
    named = named_above_nought(book.rules, supposed)
    changed = [each for each in named if asked(now, each) != asked(then, each)]
    return [len(changed)] + changed


def tell_fewest(book, statement, some):
    if not is_statement(statement) or not may_be_supposed(some):
        return [WRONG]
    contest = Contest(book)
    for size in range(len(some) + 1):
        chosen = [each for each in choices(some, size) if holds_with(contest, book.facts + each, statement)]
        if len(chosen) > 0:
            return [size, len(chosen)] + joined(chosen)
    return [UNSHOWN]


def may_be_supposed(some):
    if len(some) > MOST_SUPPOSED or len(set(some)) < len(some):
        return False
    return all([is_statement(each) for each in some])


def holds_with(contest, facts, statement):
    return asked(show_all(contest, facts), statement) == HOLDS


# All choices of one more come from those of one less, in their order: so those with the first told ones stay ahead.
def choices(some, size):
    places = [[]]
    for length in range(size):
        longer = []
        for chosen in places:
            start = chosen[-1] + 1 if length > 0 else 0
            longer.extend([chosen + [place] for place in range(start, len(some))])
        places = longer
    return [at_places(some, chosen) for chosen in places]


def at_places(some, places):
    return [some[place] for place in places]


def joined(rows):
    whole = []
    for row in rows:
        whole.extend(row)
    return whole
