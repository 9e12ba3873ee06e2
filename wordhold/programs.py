"""A line of calls, asked of a new house one behind another."""

from wordhold.asking import infer
from wordhold.asking import tell_body
from wordhold.asking import tell_callers
from wordhold.asking import tell_calls
from wordhold.asking import tell_entry
from wordhold.asking import tell_many
from wordhold.asking import tell_result
from wordhold.asking import tell_versions
from wordhold.asking import tell_word
from wordhold.cells import clear_cell
from wordhold.cells import narrow_cell
from wordhold.cells import put_cell
from wordhold.cells import read_cell
from wordhold.cells import run_over
from wordhold.cells import tell_how
from wordhold.cells import tell_seen
from wordhold.facts import Fact
from wordhold.facts import Word
from wordhold.house import House
from wordhold.house import Version
from wordhold.telling import back
from wordhold.telling import begin
from wordhold.telling import define
from wordhold.telling import drop
from wordhold.telling import give
from wordhold.telling import would

BEGIN = 0
DEFINE = 1
WOULD = 2
DROP = 3
BACK = 4
GIVE = 5
INFER = 6
WORD = 7
BODY = 8
CALLS = 9
CALLERS = 10
VERSIONS = 11
EVALUATION = 12
PUT = 13
RUN = 14
NARROW = 15
CLEAR = 16
READ = 17
SEEN = 18
HOW = 19
LOG = 20

# Of each call, by its number: how many whole numbers it has, and how many rows behind them.
WHOLE_NUMBERS = (0, 6, 6, 2, 2, 3, 0, 1, 1, 1, 1, 1, 1, 6, 3, 3, 2, 2, 1, 1, 1, 0)
ROWS = (0, 2, 2, 0, 0, 0, 2, 0, 0, 0, 0, 0, 1, 0, 1, 0, 0, 0, 0, 0, 0, 0)


class Call:
    """A call as it stands in a line, and the place where the next one begins."""

    def __init__(self, kind, numbers, rows, end):
        self.kind = kind
        self.numbers = numbers
        self.rows = rows
        self.end = end


def call_at(line, at):
    """The call that begins at this place of a line."""
    kind = line[at]
    end = at + 1 + WHOLE_NUMBERS[kind]
    numbers = line[at + 1:end]
    rows = []
    while len(rows) < ROWS[kind]:
        start = end + 1
        end = start + line[end]
        rows.append(line[start:end])
    return Call(kind, numbers, rows, end)


def bounds_of(params):
    """The bounds that params hold, a (from, to) each."""
    return [(params[k], params[k + 1]) for k in range(0, len(params), 2)]


def version_of(call):
    """The version that a define or would tells."""
    numbers = call.numbers
    promise = Fact(numbers[2], numbers[3], numbers[4], numbers[5])
    return Version(Word(bounds_of(call.rows[0]), promise), call.rows[1])


def answer_of_telling(house, call):
    """What a begin to give answers."""
    numbers = call.numbers
    if call.kind == BEGIN:
        return begin(house)
    if call.kind == DEFINE:
        return define(house, numbers[0], numbers[1], version_of(call))
    if call.kind == WOULD:
        return would(house, numbers[0], numbers[1], version_of(call))
    if call.kind == DROP:
        return drop(house, numbers[0], numbers[1])
    if call.kind == BACK:
        return back(house, numbers[0], numbers[1])
    return give(house, numbers[0], numbers[1], numbers[2])


def answer_of_asking(house, call):
    """What an infer to an evaluation answers."""
    if call.kind == INFER:
        return infer(house, bounds_of(call.rows[0]), call.rows[1])
    f = call.numbers[0]
    if call.kind == WORD:
        return tell_word(house, f)
    if call.kind == BODY:
        return tell_body(house, f)
    if call.kind == CALLS:
        return tell_calls(house, f)
    if call.kind == CALLERS:
        return tell_callers(house, f)
    if call.kind == VERSIONS:
        return tell_versions(house, f)
    return tell_result(house, f, call.rows[0])


def answer_of_cells(house, call):
    """What a put to how answers."""
    numbers = call.numbers
    if call.kind == PUT:
        return put_cell(house, numbers[0], numbers[1], (numbers[2], numbers[3]), numbers[4], numbers[5])
    if call.kind == RUN:
        return run_over(house, numbers[0], numbers[1], numbers[2], call.rows[0])
    if call.kind == NARROW:
        return narrow_cell(house, numbers[0], numbers[1], numbers[2])
    if call.kind == CLEAR:
        return clear_cell(house, numbers[0], numbers[1])
    if call.kind == READ:
        return read_cell(house, numbers[0], numbers[1])
    if call.kind == SEEN:
        return tell_seen(house, numbers[0])
    return tell_how(house, numbers[0])


def answer_of(house, call):
    """What a call answers: a refusal alone, or all the numbers told for it."""
    if call.kind <= GIVE:
        return answer_of_telling(house, call)
    if call.kind <= EVALUATION:
        return answer_of_asking(house, call)
    if call.kind <= HOW:
        return answer_of_cells(house, call)
    if call.kind == LOG:
        return tell_entry(house, call.numbers[0])
    return tell_many(house)


def answers(calls):
    """For each call how many numbers it answers, and these."""
    house = House()
    given = []
    at = 0
    while at < len(calls):
        call = call_at(calls, at)
        answer = answer_of(house, call)
        given.append(len(answer))
        given.extend(answer)
        at = call.end
    return given
