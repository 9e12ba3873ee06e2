"""Running programs: what they give, and how many steps that takes."""

from wordhold.expressions import CALL
from wordhold.expressions import CHOICE
from wordhold.expressions import GREATER
from wordhold.expressions import LESSER
from wordhold.expressions import LET
from wordhold.expressions import MINUS
from wordhold.expressions import NUMBER
from wordhold.expressions import PLUS
from wordhold.expressions import THROUGH
from wordhold.expressions import TIMES
from wordhold.expressions import VARIABLE
from wordhold.house import in_force


class Run:
    """One program's run as far as it has come.

    held: of each place that was run, its value. at: the place that's due.
    """

    def __init__(self, nodes, arguments):
        self.nodes = nodes
        self.arguments = len(arguments)
        self.held = arguments + [0] * len(nodes)
        self.at = len(arguments)


class Outcome:
    """What came out of a run, and how many steps it took."""

    def __init__(self, value, steps):
        self.value = value
        self.steps = steps


def value_of_pair(kind, a, b):
    """The value of a PLUS to BELOW over values a and b."""
    if kind == PLUS:
        return a + b
    if kind == MINUS:
        return max(0, a - b)
    if kind == TIMES:
        return a * b
    if kind == THROUGH:
        return a // b
    if kind == LESSER:
        return min(a, b)
    if kind == GREATER:
        return max(a, b)
    return 1 if a < b else 0


def value_of_node(node, held):
    """The value of an expression that's no CALL, by those that its parts hold."""
    kind = node.kind
    if kind == NUMBER:
        return node.number
    if kind == VARIABLE:
        return held[node.number]
    parts = node.parts
    if kind == CHOICE:
        return held[parts[2]] if held[parts[0]] == 0 else held[parts[1]]
    if kind == LET:
        return held[parts[1]]
    return value_of_pair(kind, held[parts[0]], held[parts[1]])


def is_at_end(run):
    """Whether the whole body is run."""
    return run.at == len(run.held)


def node_due(run):
    """The expression that's due."""
    return run.nodes[run.at - run.arguments]


def settle(run, value):
    """Gives the expression that's due its value, and goes on to the next one."""
    node = node_due(run)
    run.held[run.at] = value
    run.at = node.onward_if_zero if value == 0 else node.onward


def run_of_call(house, node, held):
    """The run that a CALL begins."""
    return Run(in_force(house, node.number).nodes, [held[place] for place in node.parts])


def evaluate(house, f, arguments):
    """What comes out of f with these arguments, each within its bound."""
    whole = Run(in_force(house, f).nodes, arguments)
    runs = [whole]
    steps = 0
    while not is_at_end(whole):
        run = runs[-1]
        if is_at_end(run):
            runs.pop()
            settle(runs[-1], run.held[-1])
        else:
            # Whatever is run takes one step more than its parts, so that each expression counts for one.
            steps += 1
            node = node_due(run)
            if node.kind == CALL:
                runs.append(run_of_call(house, node, run.held))
            else:
                settle(run, value_of_node(node, run.held))
    return Outcome(whole.held[-1], steps)
