"""Bodies: rows of numbers, read into expressions whose parts stand ahead of them."""

NUMBER = 0
VARIABLE = 1
PLUS = 2
MINUS = 3
TIMES = 4
THROUGH = 5
LESSER = 6
GREATER = 7
BELOW = 8
CHOICE = 9
LET = 10
CALL = 11


class Node:
    """One expression of a body.

    Places count the arguments first, then the expressions in the order in which they end.
    number: the value of a NUMBER, the place that a VARIABLE stands for, the program of a CALL.
    parts: the places of its parts.
    onward, onward_if_zero: the place that's run next, by whether its value is 0.
    """

    def __init__(self, kind, number, parts, onward):
        self.kind = kind
        self.number = number
        self.parts = parts
        self.onward = onward
        self.onward_if_zero = onward


class Head:
    """How an expression begins: its kind, the number that goes with it, how many parts follow."""

    def __init__(self, kind, number, due):
        self.kind = kind
        self.number = number
        self.due = due


class Begun:
    """An expression whose parts are not all read yet."""

    def __init__(self, head):
        self.head = head
        self.parts = []


class Reading:
    """A body half read: what has ended, what has begun, and the place of each variable in sight."""

    def __init__(self, arguments):
        self.arguments = arguments
        self.nodes = []
        self.begun = []
        self.sight = list(range(arguments))


def head_size(kind):
    """How many numbers a head of this kind takes."""
    if kind == NUMBER or kind == VARIABLE:
        return 2
    if kind == CALL:
        return 3
    return 1


def head_at(body, at):
    """The head that begins at this place, where there are numbers enough for it."""
    kind = body[at]
    if kind == NUMBER or kind == VARIABLE:
        return Head(kind, body[at + 1], 0)
    if kind == CALL:
        return Head(kind, body[at + 1], body[at + 2])
    if kind == CHOICE:
        return Head(kind, 0, 3)
    return Head(kind, 0, 2)


def heads_of(body):
    """All heads of a body in their order; None if its numbers are no heads."""
    heads = []
    at = 0
    while at < len(body):
        if body[at] > CALL or at + head_size(body[at]) > len(body):
            return None
        heads.append(head_at(body, at))
        at += head_size(body[at])
    return heads


def begin_expression(reading, head):
    """Takes a head in; False if it's a variable that isn't in sight."""
    number = head.number
    if head.kind == VARIABLE:
        if number >= len(reading.sight):
            return False
        number = reading.sight[number]
    reading.begun.append(Begun(Head(head.kind, number, head.due)))
    return True


def lead_past_the_other(reading, place, parts):
    """Makes the parts of the CHOICE at this place lead on so that only the one that's taken is run."""
    condition = reading.nodes[parts[0] - reading.arguments]
    taken = reading.nodes[parts[1] - reading.arguments]
    # Behind where the one for other values than 0 ends, the one for 0 begins.
    condition.onward_if_zero = parts[1] + 1
    taken.onward = place
    taken.onward_if_zero = place


def end_expression(reading):
    """Ends the innermost expression that has begun, and makes it a part of the one around it."""
    ended = reading.begun.pop()
    place = reading.arguments + len(reading.nodes)
    reading.nodes.append(Node(ended.head.kind, ended.head.number, ended.parts, place + 1))
    if ended.head.kind == CHOICE:
        lead_past_the_other(reading, place, ended.parts)
    if ended.head.kind == LET:
        reading.sight.pop()
    if len(reading.begun) > 0:
        around = reading.begun[-1]
        around.parts.append(place)
        if around.head.kind == LET and len(around.parts) == 1:
            reading.sight.append(place)


def end_what_is_whole(reading):
    """Ends every expression whose parts are all there, from the innermost outwards."""
    while len(reading.begun) > 0 and len(reading.begun[-1].parts) == reading.begun[-1].head.due:
        end_expression(reading)


def read_body(body, arguments):
    """The expressions of a body, the whole one last; None if it's no expression."""
    heads = heads_of(body)
    if heads is None:
        return None
    reading = Reading(arguments)
    for head in heads:
        # Something has ended and nothing is begun: the whole is read, and this stands behind it.
        if len(reading.nodes) > 0 and len(reading.begun) == 0:
            return None
        if not begin_expression(reading, head):
            return None
        end_what_is_whole(reading)
    if len(reading.nodes) == 0 or len(reading.begun) > 0:
        return None
    return reading.nodes
