"""Answers a list of calls about one code."""

from ruleexceptions.asking import ask, tell_all, tell_before, tell_why
from ruleexceptions.book import Book, Rule, begin, take_back_fact, tell_fact, tell_first, tell_order, tell_rule
from ruleexceptions.reading import ALL, ASK, BEFORE, BEGINS, CHANGES, FACT, FIRST, ORDER, RULE, UNFACT, WHY, read_call
from ruleexceptions.supposing import tell_changes, tell_fewest


def answers(calls):
    book = Book()
    given = []
    at = 0
    while at < len(calls):
        call = read_call(calls, at)
        answer = answer_call(book, call)
        given.append(len(answer))
        given.extend(answer)
        at = call.end
    return given


def answer_call(book, call):
    if call.number <= FIRST:
        return [answer_telling(book, call)]
    return answer_asking(book, call)


def answer_telling(book, call):
    singles = call.singles
    if call.number == BEGINS:
        return begin(book)
    if call.number == ORDER:
        return tell_order(book, call.row)
    if call.number == FACT:
        return tell_fact(book, singles[0])
    if call.number == UNFACT:
        return take_back_fact(book, singles[0])
    if call.number == RULE:
        return tell_rule(book, Rule(singles[0], singles[1], singles[2], singles[3], call.row))
    return tell_first(book, singles[0], singles[1])


def answer_asking(book, call):
    if call.number == ALL:
        return tell_all(book)
    one = call.singles[0]
    if call.number == ASK:
        return ask(book, one)
    if call.number == WHY:
        return tell_why(book, one)
    if call.number == BEFORE:
        return tell_before(book, one, call.singles[1])
    if call.number == CHANGES:
        return tell_changes(book, one)
    return tell_fewest(book, one, call.row)
