"""What's known of an expression, and when a body keeps a word."""

from wordhold.expressions import CALL
from wordhold.expressions import CHOICE
from wordhold.expressions import GREATER
from wordhold.expressions import LESSER
from wordhold.expressions import LET
from wordhold.expressions import MINUS
from wordhold.expressions import NUMBER
from wordhold.expressions import PLUS
from wordhold.expressions import THROUGH
from wordhold.expressions import TIMES
from wordhold.expressions import VARIABLE
from wordhold.terms import VALUES


class Fact:
    """What's known: the least and the most value, the arguments it hangs on as bits, the most steps."""

    def __init__(self, least, most, deps, steps):
        self.least = least
        self.most = most
        self.deps = deps
        self.steps = steps


class Word:
    """A word: a (from, to) for each argument, and the fact that it promises of the result."""

    def __init__(self, bounds, promise):
        self.bounds = bounds
        self.promise = promise


def span_of_division(a, b):
    """Least and most of a through b; None where b may be 0."""
    if b.least == 0:
        return None
    return (a.least // b.most, a.most // b.least)


def span_of_below(a, b):
    """Least and most of 1 if a is less than b, else 0."""
    if a.most < b.least:
        return (1, 1)
    if b.most <= a.least:
        return (0, 0)
    return (0, 1)


def span_of_pair(kind, a, b):
    """Least and most of a PLUS to BELOW over facts a and b; None where it may go wrong."""
    if kind == PLUS:
        return (a.least + b.least, a.most + b.most)
    if kind == MINUS:
        return (max(0, a.least - b.most), max(0, a.most - b.least))
    if kind == TIMES:
        return (a.least * b.least, a.most * b.most)
    if kind == THROUGH:
        return span_of_division(a, b)
    if kind == LESSER:
        return (min(a.least, b.least), min(a.most, b.most))
    if kind == GREATER:
        return (max(a.least, b.least), max(a.most, b.most))
    return span_of_below(a, b)


def fact_of_pair(kind, a, b):
    """What's known of a PLUS to BELOW; None where nothing is."""
    span = span_of_pair(kind, a, b)
    # Only a sum or a product can come out too great: the others never pass their parts' mosts.
    if span is None or span[1] >= VALUES:
        return None
    return Fact(span[0], span[1], a.deps | b.deps, a.steps + b.steps + 1)


def fact_of_choice(c, a, b):
    """What's known of a CHOICE."""
    deps = c.deps | a.deps | b.deps
    steps = c.steps + max(a.steps, b.steps) + 1
    return Fact(min(a.least, b.least), max(a.most, b.most), deps, steps)


def fact_of_let(e, b):
    """What's known of a LET: b's variable has told b what it needs of e."""
    return Fact(b.least, b.most, b.deps, e.steps + b.steps + 1)


def fact_of_call(word, parts):
    """What's known of a call of a program with this word (None: there's no such program)."""
    if word is None or len(parts) != len(word.bounds):
        return None
    deps = 0
    steps = word.promise.steps + 1
    for k, part in enumerate(parts):
        if part.least < word.bounds[k][0] or part.most > word.bounds[k][1]:
            return None
        if (word.promise.deps >> k) & 1 == 1:
            deps = deps | part.deps
        steps += part.steps
    return Fact(word.promise.least, word.promise.most, deps, steps)


def fact_of_node(node, facts, words):
    """What's known of an expression by the facts of all places ahead of it; None where nothing is."""
    if node.kind == NUMBER:
        return Fact(node.number, node.number, 0, 1)
    if node.kind == VARIABLE:
        fact = facts[node.number]
        return Fact(fact.least, fact.most, fact.deps, 1)
    parts = [facts[place] for place in node.parts]
    if node.kind == CHOICE:
        return fact_of_choice(parts[0], parts[1], parts[2])
    if node.kind == LET:
        return fact_of_let(parts[0], parts[1])
    if node.kind == CALL:
        return fact_of_call(words.get(node.number), parts)
    return fact_of_pair(node.kind, parts[0], parts[1])


def facts_of_arguments(bounds):
    """What's known of each argument's variable."""
    return [Fact(bound[0], bound[1], 1 << k, 1) for k, bound in enumerate(bounds)]


def known_of(nodes, bounds, words):
    """What's known of a body that was read into nodes (None: it's no expression); None where nothing is.

    bounds: of its arguments. words: of each program that's there, the word in force.
    """
    if nodes is None:
        return None
    facts = facts_of_arguments(bounds)
    for node in nodes:
        fact = fact_of_node(node, facts, words)
        if fact is None:
            return None
        facts.append(fact)
    return facts[-1]


def keeps(nodes, word, words):
    """Whether a body that was read into nodes keeps this word by those words."""
    fact = known_of(nodes, word.bounds, words)
    if fact is None:
        return False
    promise = word.promise
    if fact.least < promise.least or fact.most > promise.most:
        return False
    return fact.deps | promise.deps == promise.deps and fact.steps <= promise.steps
