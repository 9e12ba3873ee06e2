"""The calls that only tell of programs: infer, word, body, calls, callers."""

from wordhold.expressions import read_body
from wordhold.facts import known_of
from wordhold.house import called_by
from wordhold.house import callers_of
from wordhold.house import in_force
from wordhold.house import words_in_force
from wordhold.terms import NOT_KEPT
from wordhold.terms import NOT_THERE
from wordhold.terms import WRONG
from wordhold.terms import may_be_asked


def infer(house, bounds, body):
    """What's known of a body with such arguments, by the words in force."""
    if not may_be_asked(bounds, body):
        return [WRONG]
    fact = known_of(read_body(body, len(bounds)), bounds, words_in_force(house))
    if fact is None:
        return [NOT_KEPT]
    return [0, fact.least, fact.most, fact.deps, fact.steps]


def tell_word(house, f):
    """The word of f."""
    if f not in house.programs:
        return [NOT_THERE]
    word = in_force(house, f).word
    told = [len(word.bounds)]
    for bound in word.bounds:
        told.extend(bound)
    told.extend([word.promise.least, word.promise.most, word.promise.deps, word.promise.steps])
    return told


def tell_body(house, f):
    """The body of f."""
    if f not in house.programs:
        return [NOT_THERE]
    body = in_force(house, f).body
    return [len(body)] + body


def tell_calls(house, f):
    """Whom f calls."""
    if f not in house.programs:
        return [NOT_THERE]
    called = called_by(house, f)
    return [len(called)] + called


def tell_callers(house, f):
    """Who calls f."""
    if f not in house.programs:
        return [NOT_THERE]
    callers = callers_of(house, f)
    return [len(callers)] + callers
