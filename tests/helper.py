"""Writes calls as the interface wants them, and parts what is answered, call by call."""

from ruleexceptions.book import Book
from ruleexceptions.code import answer_call, answers
from ruleexceptions.reading import read_call

TOP = 4294967295
BOTTOM = -2147483648

BEGINS = [0]
ALL = [9]

STRICT, USUAL, GUARD = 0, 1, 2


def order(*three):
    return [1, len(three), *three]


def fact(statement):
    return [2, statement]


def unfact(statement):
    return [3, statement]


def rule(said=1, conditions=(), kind=1, rank=0, day=0):
    return [4, kind, rank, day, said, len(conditions), *conditions]


def first(one, other):
    return [5, one, other]


def ask(statement):
    return [6, statement]


def why(statement):
    return [7, statement]


def before(one, other):
    return [8, one, other]


def changes(statement):
    return [10, statement]


def fewest(statement, *some):
    return [11, statement, len(some), *some]


def joined(calls):
    return [number for call in calls for number in call]


def parted(given):
    parts = []
    at = 0
    while at < len(given):
        end = at + 1 + given[at]
        # Else a wrong count would be gone through for ever.
        if not at < end <= len(given):
            raise AssertionError(f"no count at {at} of {given}")
        parts.append(given[at + 1:end])
        at = end
    return parts


def answered(*calls):
    """What each call answers; for those that answer one number alone, that number."""
    parts = parted(answers(joined(calls)))
    return [part[0] if len(part) == 1 else part for part in parts]


def last(*calls):
    return answered(*calls)[-1]


def asked_after(told, *statements):
    return answered(*told, *[ask(statement) for statement in statements])[len(told):]


def book_after(*calls):
    book = Book()
    for call in calls:
        answer_call(book, read_call(call, 0))
    return book


def shown(book):
    """All that a book keeps, in a form that can be compared."""
    rules = [(each.kind, each.rank, each.day, each.said, each.conditions) for each in book.rules]
    return sorted(book.facts), rules, sorted(book.told), tuple(book.measures)


def state_after(*calls):
    return shown(book_after(*calls))


ALL_STATEMENTS = [number for number in range(-20, 21) if number != 0]
WRONG_STATEMENTS = (0, 21, -21, 22, -22, 100, -100, BOTTOM, BOTTOM + 1, TOP, TOP - 19, 2147483648)
TWENTY_FACTS = [fact(statement) for statement in range(1, 21)]
TWENTY_RULES = [rule(said) for said in range(1, 21)]
EMPTY = ([], [], [], (0, 1, 2))
