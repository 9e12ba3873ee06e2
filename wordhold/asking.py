"""The calls that only tell of programs, and of the log: infer, word, body, calls, callers, versions,
evaluation, log, many."""

from wordhold.expressions import read_body
from wordhold.facts import known_of
from wordhold.house import called_by
from wordhold.house import callers_of
from wordhold.house import in_force
from wordhold.house import words_in_force
from wordhold.running import evaluate
from wordhold.terms import NOT_KEPT
from wordhold.terms import NOT_THERE
from wordhold.terms import WRONG
from wordhold.terms import may_be_asked


def infer(house, bounds, body):
    """What's known of a body with such arguments, by the words in force."""
    if not may_be_asked(bounds, body):
        return [WRONG]
    fact = known_of(read_body(body, len(bounds)), bounds, words_in_force(house))
    if fact is None:
        return [NOT_KEPT]
    return [0, fact.least, fact.most, fact.deps, fact.steps]


def tell_word(house, f):
    """The word of f."""
    if f not in house.programs:
        return [NOT_THERE]
    word = in_force(house, f).word
    told = [len(word.bounds)]
    for bound in word.bounds:
        told.extend(bound)
    told.extend([word.promise.least, word.promise.most, word.promise.deps, word.promise.steps])
    return told


def tell_body(house, f):
    """The body of f."""
    if f not in house.programs:
        return [NOT_THERE]
    body = in_force(house, f).body
    return [len(body)] + body


def tell_calls(house, f):
    """Whom f calls."""
    if f not in house.programs:
        return [NOT_THERE]
    called = called_by(house, f)
    return [len(called)] + called


def tell_callers(house, f):
    """Who calls f."""
    if f not in house.programs:
        return [NOT_THERE]
    callers = callers_of(house, f)
    return [len(callers)] + callers


def tell_versions(house, f):
    """How many versions f has, and whose it is."""
    if f not in house.programs:
        return [NOT_THERE]
    program = house.programs[f]
    return [len(program.versions), program.owner]


def are_within(arguments, bounds):
    """Whether there's an argument for each bound, and within it."""
    if len(arguments) != len(bounds):
        return False
    return all([bound[0] <= argument <= bound[1] for argument, bound in zip(arguments, bounds)])


def tell_result(house, f, arguments):
    """What f gives for these arguments, and how many steps that takes."""
    if f not in house.programs:
        return [NOT_THERE]
    if not are_within(arguments, in_force(house, f).word.bounds):
        return [WRONG]
    outcome = evaluate(house, f, arguments)
    return [0, outcome.value, outcome.steps]


def tell_entry(house, k):
    """Entry k of the log."""
    if k >= len(house.entries):
        return [NOT_THERE]
    return list(house.entries[k])


def tell_many(house):
    """How many programs there are, and how many entries."""
    return [len(house.programs), len(house.entries)]
