"""Lines of calls written as tests think of them, and answers told apart."""

from wordhold.programs import answers

MOST = 4294967295
EVERYBODY = 65535


def num(v):
    return [0, v]


def var(k):
    return [1, k]


def plus(a, b):
    return [2] + a + b


def minus(a, b):
    return [3] + a + b


def times(a, b):
    return [4] + a + b


def through(a, b):
    return [5] + a + b


def lesser(a, b):
    return [6] + a + b


def greater(a, b):
    return [7] + a + b


def below(a, b):
    return [8] + a + b


def choice(c, a, b):
    return [9] + c + a + b


def let(e, b):
    return [10] + e + b


def call(f, *arguments):
    return [11, f, len(arguments)] + [number for row in arguments for number in row]


def begin():
    return [0]


def define(who, f, params, result, deps, cost, body):
    return [1, who, f, result[0], result[1], deps, cost, len(params)] + params + [len(body)] + body


def would(who, f, params, result, deps, cost, body):
    return [2] + define(who, f, params, result, deps, cost, body)[1:]


def drop(who, f):
    return [3, who, f]


def back(who, f):
    return [4, who, f]


def give(who, f, to):
    return [5, who, f, to]


def infer(params, body):
    return [6, len(params)] + params + [len(body)] + body


def word(f):
    return [7, f]


def body(f):
    return [8, f]


def calls(f):
    return [9, f]


def callers(f):
    return [10, f]


def versions(f):
    return [11, f]


def evaluate(f, *args):
    return [12, f, len(args)] + list(args)


def put(who, k, bound, v, mask=EVERYBODY):
    return [13, who, k, bound[0], bound[1], v, mask]


def run(who, f, to, *cells):
    return [14, who, f, to, len(cells)] + list(cells)


def narrow(who, k, mask):
    return [15, who, k, mask]


def clear(who, k):
    return [16, who, k]


def read(who, k):
    return [17, who, k]


def seen(k):
    return [18, k]


def how(k):
    return [19, k]


def log(k):
    return [20, k]


def many():
    return [21]


def constant(who, f, v=0, cost=1):
    """A program without arguments that is the number v."""
    return define(who, f, [], (v, v), 0, cost, num(v))


def wide(f, params, body):
    """Program f of 0's, that promises as little as one can."""
    return define(0, f, params, (0, MOST), 2 ** (len(params) // 2) - 1, 20000, body)


def full_log():
    """128 entries, and nothing left of them."""
    return [constant(3, 9), drop(3, 9)] * 64


def told_apart(given):
    """The answers of a line, a list each."""
    apart = []
    at = 0
    while at < len(given):
        end = at + 1 + given[at]
        apart.append(given[at + 1:end])
        at = end
    return apart


def ask(*asked):
    """What these calls answer behind a begin, a list each."""
    line = begin()
    for one in asked:
        line = line + one
    if len(asked) >= 300 or len(line) > 30000:
        raise AssertionError("a line has at most 300 calls and 30000 numbers")
    apart = told_apart(answers(line))
    if len(apart) != len(asked) + 1 or apart[0] != [0]:
        raise AssertionError("a line answers each of its calls, and its begin 0")
    return apart[1:]


def last(*asked):
    """What the last of these calls answers."""
    return ask(*asked)[-1]


def questions():
    """All that may be asked of what a house holds."""
    asked = [many()] + [log(k) for k in range(129)]
    for f in range(16):
        asked += [word(f), body(f), calls(f), callers(f), versions(f)]
    for k in range(32):
        asked += [seen(k), how(k)] + [read(who, k) for who in range(16)]
    return asked


def state(*asked):
    """All that a house holds behind these calls, of which there may be 150."""
    told = []
    left = questions()
    while left:
        told += ask(*asked, *left[:149])[len(asked):]
        left = left[149:]
    return told
