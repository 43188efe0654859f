"""Answers a list of calls about one code."""

from ruleexceptions.book import Book, Rule, begin, take_back_fact, tell_fact, tell_first, tell_order, tell_rule
from ruleexceptions.reading import BEGINS, FACT, FIRST, ORDER, RULE, UNFACT, read_call


def answers(calls):
    book = Book()
    given = []
    at = 0
    while at < len(calls):
        call = read_call(calls, at)
        answer = answer_call(book, call)
        given.append(len(answer))
        given.extend(answer)
        at = call.end
    return given


def answer_call(book, call):
    singles = call.singles
    if call.number == BEGINS:
        return [begin(book)]
    if call.number == ORDER:
        return [tell_order(book, call.row)]
    if call.number == FACT:
        return [tell_fact(book, singles[0])]
    if call.number == UNFACT:
        return [take_back_fact(book, singles[0])]
    if call.number == RULE:
        return [tell_rule(book, Rule(singles[0], singles[1], singles[2], singles[3], call.row))]
    if call.number == FIRST:
        return [tell_first(book, singles[0], singles[1])]
    # The six calls that only ask are not built yet: no numbers, which no built call ever answers.
    return []
