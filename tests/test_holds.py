"""What holds (a to f) over many lines, and every answer held against a second telling of the words.

The lines are drawn by a seeded source, so they are the same each time.
"""

import random
import unittest

import helper
from helper import MOST

LIMIT = 2 ** 32


class Unknown(Exception):
    pass


def parse(row, at, sight):
    """The tree of the expression at this place, and where it ends."""
    if at >= len(row):
        raise Unknown
    kind = row[at]
    if kind > 11 or at + {0: 1, 1: 1, 11: 2}.get(kind, 0) >= len(row):
        raise Unknown
    if kind == 0:
        return (0, row[at + 1]), at + 2
    if kind == 1:
        if row[at + 1] >= sight:
            raise Unknown
        return (1, row[at + 1]), at + 2
    if kind == 10:
        held, at = parse(row, at + 1, sight)
        within, at = parse(row, at, sight + 1)
        return (10, held, within), at
    if kind == 11:
        tree, many, at = [11, row[at + 1]], row[at + 2], at + 3
    else:
        tree, many, at = [kind], 3 if kind == 9 else 2, at + 1
    if many > len(row):
        raise Unknown
    for k in range(many):
        part, at = parse(row, at, sight)
        tree.append(part)
    return tuple(tree), at


def whole(row, sight):
    tree, end = parse(row, 0, sight)
    if end != len(row):
        raise Unknown
    return tree


def fact(tree, sight, words):
    """(least, most, deps, steps); sight holds (least, most, deps) of each variable."""
    kind = tree[0]
    if kind == 0:
        return tree[1], tree[1], frozenset(), 1
    if kind == 1:
        return sight[tree[1]] + (1,)
    if kind == 10:
        held = fact(tree[1], sight, words)
        within = fact(tree[2], sight + [held[:3]], words)
        return within[:3] + (held[3] + within[3] + 1,)
    if kind == 11:
        parts = [fact(part, sight, words) for part in tree[2:]]
        if tree[1] not in words or len(words[tree[1]][0]) != len(parts):
            raise Unknown
        bounds, lo, hi, deps, cost = words[tree[1]]
        if not all(lo2 <= p[0] and p[1] <= hi2 for p, (lo2, hi2) in zip(parts, bounds)):
            raise Unknown
        union = frozenset().union(*[p[2] for k, p in enumerate(parts) if k in deps])
        return lo, hi, union, sum(p[3] for p in parts) + cost + 1
    parts = [fact(part, sight, words) for part in tree[1:]]
    union = frozenset().union(*[p[2] for p in parts])
    if kind == 9:
        c, a, b = parts
        return min(a[0], b[0]), max(a[1], b[1]), union, c[3] + max(a[3], b[3]) + 1
    a, b = parts
    least, most = {
        2: lambda: (a[0] + b[0], a[1] + b[1]),
        3: lambda: (max(a[0] - b[1], 0), max(a[1] - b[0], 0)),
        4: lambda: (a[0] * b[0], a[1] * b[1]),
        5: lambda: (a[0] // b[1], a[1] // b[0]) if b[0] else (0, LIMIT),
        6: lambda: (min(a[0], b[0]), min(a[1], b[1])),
        7: lambda: (max(a[0], b[0]), max(a[1], b[1])),
        8: lambda: (1, 1) if a[1] < b[0] else (0, 0) if b[1] <= a[0] else (0, 1),
    }[kind]()
    if most >= LIMIT:
        raise Unknown
    return least, most, union, a[3] + b[3] + 1


def known(bounds, row, words):
    try:
        tree = whole(row, len(bounds))
        return fact(tree, [(lo, hi, frozenset([k])) for k, (lo, hi) in enumerate(bounds)], words)
    except Unknown:
        return None


def keeps(word, row, words):
    bounds, lo, hi, deps, cost = word
    got = known(bounds, row, words)
    return got is not None and lo <= got[0] and got[1] <= hi and got[2] <= deps and got[3] <= cost


def run(tree, held, programs):
    """The value and how many steps it took; programs: f to (word, body)."""
    kind = tree[0]
    if kind == 0:
        return tree[1], 1
    if kind == 1:
        return held[tree[1]], 1
    if kind == 9:
        c = run(tree[1], held, programs)
        taken = run(tree[2] if c[0] else tree[3], held, programs)
        return taken[0], c[1] + taken[1] + 1
    if kind == 10:
        first = run(tree[1], held, programs)
        second = run(tree[2], held + [first[0]], programs)
        return second[0], first[1] + second[1] + 1
    parts = [run(part, held, programs) for part in tree[(2 if kind == 11 else 1):]]
    steps = sum(part[1] for part in parts) + 1
    if kind == 11:
        word, row = programs[tree[1]]
        got = run(whole(row, len(parts)), [part[0] for part in parts], programs)
        return got[0], steps + got[1]
    a, b = parts[0][0], parts[1][0]
    value = {2: lambda: a + b, 3: lambda: max(a - b, 0), 4: lambda: a * b, 5: lambda: a // b, 6: lambda: min(a, b),
             7: lambda: max(a, b), 8: lambda: int(a < b)}[kind]()
    if value >= LIMIT:
        raise OverflowError
    return value, steps


def bits(many):
    return sum(1 << k for k in many)


def members(deps):
    return frozenset(k for k in range(32) if deps >> k & 1)


class Cell:
    """A cell as at the beginning."""

    def __init__(self):
        self.value, self.lo, self.hi, self.eyes, self.origin = 0, 0, 0, frozenset(range(16)), [0]


class Model:
    """The words of the document, told a second time."""

    def __init__(self):
        self.begin()

    def begin(self):
        self.owner, self.told, self.entries = {}, {}, []
        self.cells = [Cell() for k in range(32)]
        return [0]

    def words(self, **changed):
        words = {f: versions[-1][0] for f, versions in self.told.items()}
        words.update(changed.get("also", {}))
        return words

    def well(self, params, row):
        pairs = list(zip(params[::2], params[1::2]))
        return len(pairs) <= 4 and all(lo <= hi < LIMIT for lo, hi in pairs) and len(row) <= 200

    def against(self, f, word, row):
        words = self.words(also={f: word})
        if not keeps(word, row, words):
            return -33
        if not all(keeps(*versions[-1], words) for g, versions in self.told.items() if g != f):
            return -17
        return 0

    def would(self, who, f, params, result, deps, cost, row):
        lo, hi = result
        many = len(params) // 2
        if who > 15 or f > 15 or not self.well(params, row) or not lo <= hi < LIMIT:
            return [-22]
        if deps >= 2 ** many or cost > 20000:
            return [-22]
        if self.owner.get(f, who) != who:
            return [-1]
        if len(self.told.get(f, [])) == 8 or len(self.entries) == 128:
            return [-28]
        word = (list(zip(params[::2], params[1::2])), lo, hi, members(deps), cost)
        return [self.against(f, word, row) or len(self.told.get(f, []))]

    def define(self, who, f, params, result, deps, cost, row):
        answer = self.would(who, f, params, result, deps, cost, row)
        if answer[0] >= 0:
            word = (list(zip(params[::2], params[1::2])), result[0], result[1], members(deps), cost)
            self.owner[f] = who
            self.told.setdefault(f, []).append((word, row))
            self.entries.append([1, who, f])
        return answer

    def hand(self, who, f):
        return -2 if f not in self.owner else -1 if self.owner[f] != who else 0

    def drop(self, who, f):
        refusal = self.hand(who, f) or (-28 if len(self.entries) == 128 else 0) or (-17 if self.callers(f)[0] > 0 else 0)
        if not refusal:
            self.owner.pop(f)
            self.told.pop(f)
            self.entries.append([2, who, f])
        return [refusal]

    def back(self, who, f):
        refusal = self.hand(who, f) or (-6 if len(self.told[f]) == 1 else 0)
        refusal = refusal or (-28 if len(self.entries) == 128 else 0) or self.against(f, *self.told[f][-2])
        if refusal:
            return [refusal]
        self.told[f].pop()
        self.entries.append([3, who, f])
        return [len(self.told[f])]

    def give(self, who, f, to):
        refusal = self.hand(who, f) or (-22 if to > 15 else 0)
        if not refusal:
            self.owner[f] = to
        return [refusal]

    def infer(self, params, row):
        if not self.well(params, row):
            return [-22]
        got = known(list(zip(params[::2], params[1::2])), row, self.words())
        return [-33] if got is None else [0, got[0], got[1], bits(got[2]), got[3]]

    def word(self, f):
        if f not in self.owner:
            return [-2]
        bounds, lo, hi, deps, cost = self.told[f][-1][0]
        return [len(bounds)] + [number for bound in bounds for number in bound] + [lo, hi, bits(deps), cost]

    def body(self, f):
        return [-2] if f not in self.owner else [len(self.told[f][-1][1])] + self.told[f][-1][1]

    def called(self, f):
        def walk(tree):
            inner = [walk(part) for part in tree[1:] if isinstance(part, tuple)]
            return frozenset([tree[1]] if tree[0] == 11 else []).union(*inner)
        word, row = self.told[f][-1]
        return walk(whole(row, len(word[0])))

    def calls(self, f):
        if f not in self.owner:
            return [-2]
        return [len(self.called(f))] + sorted(self.called(f))

    def callers(self, f):
        if f not in self.owner:
            return [-2]
        found = sorted(g for g in self.owner if f in self.called(g))
        return [len(found)] + found


    def versions(self, f):
        return [-2] if f not in self.owner else [len(self.told[f]), self.owner[f]]

    def outcome(self, f, args):
        word, row = self.told[f][-1]
        return run(whole(row, len(args)), list(args), {g: self.told[g][-1] for g in self.told})

    def evaluate(self, f, *args):
        if f not in self.owner:
            return [-2]
        bounds = self.words()[f][0]
        if len(args) != len(bounds) or any(not lo <= v <= hi for v, (lo, hi) in zip(args, bounds)):
            return [-22]
        return [0, *self.outcome(f, args)]

    def put(self, who, k, bound, v, mask):
        lo, hi = bound
        if who > 15 or k > 31 or lo > hi or not lo <= v <= hi or mask > 65535:
            return [-22]
        cell = self.cells[k] = Cell()
        cell.value, cell.lo, cell.hi, cell.eyes, cell.origin = v, lo, hi, members(mask), [1, who]
        return [0]

    def run(self, who, f, to, *cells):
        if who > 15 or to > 31 or max(cells, default=0) > 31:
            return [-22]
        if f not in self.owner:
            return [-2]
        bounds, lo, hi, deps, cost = self.words()[f]
        over = [self.cells[k] for k in cells]
        if len(cells) != len(bounds):
            return [-22]
        if any(who not in cell.eyes for cell in over):
            return [-13]
        if any(cell.lo < least or most < cell.hi for cell, (least, most) in zip(over, bounds)):
            return [-71]
        cell = Cell()
        cell.value, cell.lo, cell.hi = self.outcome(f, [one.value for one in over])[0], lo, hi
        cell.eyes = frozenset(p for p in range(16) if all(p in over[k].eyes for k in deps))
        cell.origin = [2, who, f, len(self.told[f]) - 1, *cells]
        self.cells[to] = cell
        return [0]

    def mine(self, who, k):
        return 0 if self.cells[k].origin[1:2] == [who] else -1

    def narrow(self, who, k, mask):
        if k > 31 or mask > 65535:
            return [-22]
        if self.mine(who, k) == 0:
            self.cells[k].eyes &= members(mask)
        return [self.mine(who, k)]

    def clear(self, who, k):
        if k > 31:
            return [-22]
        refusal = self.mine(who, k)
        if refusal == 0:
            self.cells[k] = Cell()
        return [refusal]

    def read(self, who, k):
        if who > 15 or k > 31:
            return [-22]
        return [0, self.cells[k].value] if who in self.cells[k].eyes else [-13]

    def seen(self, k):
        return [-22] if k > 31 else [0, bits(self.cells[k].eyes), self.cells[k].lo, self.cells[k].hi]

    def how(self, k):
        return [-22] if k > 31 else self.cells[k].origin

    def log(self, k):
        return self.entries[k] if k < len(self.entries) else [-2]

    def many(self):
        return [len(self.owner), len(self.entries)]


class Source:
    """Draws calls that are mostly near the edge of being taken."""

    def __init__(self, seed, over_cells=0.0):
        self.draw = random.Random(seed)
        self.over_cells = over_cells
        self.model = Model()

    def number(self):
        return self.draw.choice([0, 0, 1, 1, 2, 3, 5, 9, 100, 65535, 65536, MOST - 1, MOST])

    def expression(self, size, sight):
        draw = self.draw
        kind = draw.choice([0, 1, 1, 2, 3, 4, 5, 6, 7, 8, 9, 10, 11, 11, 11]) if size > 1 else draw.choice([0, 1])
        if kind == 1 and sight == 0 and draw.random() < 0.95:
            kind = 0
        if kind == 0:
            return [0, self.number()]
        if kind == 1:
            return [1, draw.randrange(sight + (draw.random() < 0.02) or 1)]
        if kind == 11:
            return self.call(size, sight)
        many = 3 if kind == 9 else 2
        row = [kind]
        for k in range(many):
            part = self.expression(size // many, sight + (kind == 10 and k == 1))
            if kind == 5 and k == 1:
                part = [7, 0, draw.choice([0, 1, 1, 2, 9])] + part
            if kind == 4:
                part = [6, 0, draw.choice([9, 65535, 65536])] + part
            row += part
        return row

    def call(self, size, sight):
        words = self.model.words()
        if not words or self.draw.random() < 0.03:
            return [11, self.draw.randrange(18), 0]
        f = self.draw.choice(sorted(words))
        bounds = words[f][0]
        row = [11, f, len(bounds)]
        for lo, hi in bounds:
            part = self.expression(size // (len(bounds) + 1), sight)
            row += [7, 0, lo, 6, 0, hi] + part if self.draw.random() < 0.9 else part
        return row

    def params(self):
        row = []
        for k in range(self.draw.choice([0, 1, 1, 2, 2, 3, 4])):
            pair = sorted([self.number(), self.number()])
            row += pair
        if row and self.draw.random() < 0.02:
            row = row[::-1]
        return row

    def telling(self):
        draw = self.draw
        params = self.params()
        row = self.expression(draw.choice([1, 3, 8, 20]), len(params) // 2)
        f = draw.choice([0, 1, 2, 3, 4, 5, 15] * 3 + [16])
        old = self.model.told.get(f)
        if old and draw.random() < 0.5:
            params = [number for bound in old[-1][0][0] for number in bound]
            row = draw.choice([old[-1][1], self.expression(8, len(params) // 2)])
        if draw.random() < 0.04:
            row = draw.choice([row[:-1], row + [0, 0], row + [draw.randrange(14)]])
        got = known(list(zip(params[::2], params[1::2])), row, self.model.words()) if self.model.well(params, row) else None
        lo, hi, deps, cost = got or (0, MOST, frozenset(), 50)
        lo = max(0, lo - draw.choice([0, 0, 0, 1, 5]) + (draw.random() < 0.05))
        hi = min(MOST, hi + draw.choice([0, 0, 0, 1, 100, MOST]) - (draw.random() < 0.05 and hi > 0))
        cost = cost + draw.choice([0, 0, 0, 1, 20, 200]) - (draw.random() < 0.05)
        deps = bits(deps) | (draw.randrange(17) & (2 ** (len(params) // 2) - 1) if draw.random() < 0.2 else 0)
        if draw.random() < 0.03:
            deps = draw.randrange(32)
        return self.who(f), f, params, (lo, hi), deps, cost, row

    def who(self, f):
        owner = self.model.owner.get(f)
        if owner is None or self.draw.random() < 0.05:
            return self.draw.choice([0, 1, 2, 15, 16])
        return owner

    def person(self):
        return self.draw.choice([0, 0, 1, 1, 2, 3, 15] * 5 + [16])

    def cell(self):
        return self.draw.choice([0, 1, 2, 3, 4, 5, 31] * 7 + [32])

    def mask(self):
        return self.draw.choice([65535, 65535, 65534, 3, 6, 14, 0x8003, 0, 0xfff0, 1, 65536])

    def within(self, bounds):
        """Values for these bounds, mostly within."""
        row = [self.draw.choice([lo, hi, self.draw.randint(lo, hi)]) for lo, hi in bounds]
        if row and self.draw.random() < 0.1:
            row[-1] = self.draw.choice([bounds[-1][1] + 1, max(0, bounds[-1][0] - 1)]) % LIMIT
        return row + [0] if self.draw.random() < 0.05 else row

    def program(self):
        there = sorted(self.model.owner)
        return self.draw.choice(there) if there and self.draw.random() < 0.93 else self.draw.randrange(18)

    def bounds(self, f):
        return self.model.words()[f][0] if f in self.model.owner else []

    def putting(self):
        bounds = self.bounds(self.program())
        lo, hi = self.draw.choice(bounds) if bounds else (0, 9)
        narrower = self.draw.randint(lo, hi)
        lo, hi = self.draw.choice([(lo, hi), (lo, narrower), (narrower, hi), (narrower, narrower), (lo, min(MOST, hi + 1))])
        v = self.draw.choice([lo, hi, self.draw.randint(lo, hi)])
        if self.draw.random() < 0.03:
            lo, hi = hi, lo
        return self.person(), self.cell(), (lo, hi), v if self.draw.random() < 0.95 else self.number(), self.mask()

    def running(self):
        """Mostly over cells that fit."""
        f, who, cells = self.program(), self.person(), []
        for lo, hi in self.bounds(f):
            fit = [k for k, cell in enumerate(self.model.cells) if lo <= cell.lo and cell.hi <= hi and k < 6]
            eyed = [k for k in fit if who in self.model.cells[k].eyes]
            cells.append(self.draw.choice(eyed or fit or [self.cell()] if self.draw.random() < 0.9 else [self.cell()]))
        if self.draw.random() < 0.03:
            cells.append(self.cell())
        return (who, f, self.cell(), *cells)

    def handling(self, name):
        """What a narrow or a clear is handed, mostly by whose it is."""
        k = self.cell()
        mine = self.model.cells[k].origin[1:2] if k < 32 else []
        who = mine[0] if mine and self.draw.random() < 0.8 else self.person()
        return (who, k, self.mask()) if name == "narrow" else (who, k)

    def one_over_cells(self):
        """The name of a call over cells, or that only tells, and what it's handed."""
        name = self.draw.choice(["put"] * 5 + ["run"] * 10 + ["narrow", "narrow", "clear", "read", "read", "read", "seen", "how",
                                                             "log", "many", "versions", "evaluate", "evaluate"])
        if name == "put":
            return name, self.putting()
        if name == "run":
            return name, self.running()
        if name in ("narrow", "clear"):
            return name, self.handling(name)
        if name == "read":
            return name, (self.person(), self.cell())
        if name in ("seen", "how"):
            return name, (self.cell(),)
        if name == "log":
            return name, (self.draw.randrange(len(self.model.entries) + 2),)
        if name == "many":
            return name, ()
        f = self.program()
        return name, (f,) if name == "versions" else (f, *self.within(self.bounds(f)))

    def one(self):
        """The name of a call and what it's handed."""
        if self.draw.random() < self.over_cells:
            return self.one_over_cells()
        name = self.draw.choice(["define"] * 8 + ["would"] * 2 + ["drop", "back", "back", "back", "give", "infer", "infer",
                                                             "word", "body", "calls", "callers"])
        if name in ("define", "would"):
            return name, self.telling()
        if name == "infer":
            params = self.params()
            return name, (params, self.expression(12, len(params) // 2))
        f = self.draw.choice([0, 1, 2, 3, 4, 5, 15, 15, 16])
        if name in ("word", "body", "calls", "callers"):
            return name, (f,)
        if name == "give":
            return name, (self.who(f), f, self.draw.choice([0, 1, 2, 15, 16]))
        return name, (self.who(f), f)

    def line(self, many, entries=0):
        """A line of calls and what the model answers to each; the first ones only make entries."""
        asked, wanted = [], []
        while len(asked) < many and sum(len(one) for one in asked) < 29000:
            if len(asked) < entries:
                telling = "define", (3, 9, [], (0, 0), 0, 1, [0, 0])
                name, handed = telling if len(asked) % 2 == 0 else ("drop", (3, 9))
            else:
                name, handed = ("begin", ()) if self.draw.random() < 0.001 else self.one()
            asked.append(getattr(helper, name)(*handed))
            wanted.append((name, getattr(self.model, name)(*handed)))
        return asked, wanted


def programs_there(told):
    """f to (word, body) of who is there, by 16 answers of word and then 16 of body."""
    there = {}
    for f in range(16):
        row = told[f]
        if row != [-2]:
            many = row[0]
            bounds = list(zip(row[1:1 + 2 * many:2], row[2:2 + 2 * many:2]))
            lo, hi, deps, cost = row[1 + 2 * many:]
            there[f] = ((bounds, lo, hi, members(deps), cost), told[16 + f][1:])
    return there


REFUSALS = {
    "define": (-22, -1, -28, -33, -17), "would": (-22, -1, -28, -33, -17), "drop": (-2, -1, -28, -17),
    "back": (-2, -1, -6, -28, -33, -17), "give": (-2, -1, -22), "infer": (-22, -33), "word": (-2,), "body": (-2,),
    "calls": (-2,), "callers": (-2,), "versions": (-2,), "evaluate": (-2, -22), "put": (-22,), "run": (-22, -2, -13, -71),
    "narrow": (-22, -1), "clear": (-22, -1), "read": (-22, -13), "seen": (-22,), "how": (-22,), "log": (-2,), "many": (),
}


class AgainstTheModel(unittest.TestCase):
    def hold(self, source, many, entries, met):
        asked, wanted = source.line(many, entries)
        given = helper.ask(*asked)
        for k, (name, answer) in enumerate(wanted):
            self.assertEqual(given[k], answer, (k, name, asked[k]))
            code = answer[0] if answer[0] < 0 else "taken"
            met[name, code] = met.get((name, code), 0) + 1

    def test_lines(self):
        met = {}
        for seed in range(60):
            self.hold(Source(seed), 240, 100 if seed % 3 == 0 else 0, met)
        for seed in range(1000, 1080):
            self.hold(Source(seed, 0.7), 290, 0, met)
        for name in REFUSALS:
            for code in REFUSALS[name] + ("taken",):
                self.assertGreater(met.get((name, code), 0), 20 if name == "run" else 0, (name, code))
        self.assertEqual({code for name, code in met} - {"taken"}, {code for name in REFUSALS for code in REFUSALS[name]})


class Holds(unittest.TestCase):
    def lines(self):
        for seed in range(100, 140):
            asked, wanted = Source(seed).line(200)
            told = helper.ask(*asked, *[[7, f] for f in range(16)], *[[8, f] for f in range(16)])
            yield random.Random(seed), programs_there(told[-32:])

    def test_every_body_keeps_its_word_by_the_words_in_force(self):
        for draw, there in self.lines():
            words = {f: there[f][0] for f in there}
            for f in there:
                self.assertTrue(keeps(*there[f], words), f)

    def test_nobody_calls_itself_by_however_many(self):
        for seed in range(100, 140):
            asked, wanted = Source(seed).line(200)
            told = helper.ask(*asked, *[[9, f] for f in range(16)])[-16:]
            called = {f: told[f][1:] for f in range(16) if told[f] != [-2]}
            while called:
                lone = [f for f in called if not any(g in called for g in called[f])]
                self.assertTrue(lone, called)
                for f in lone:
                    called.pop(f)

    def test_runs_lie_within_what_is_told(self):
        runs = 0
        for draw, there in self.lines():
            for f in there:
                bounds, lo, hi, deps, cost = there[f][0]
                tree = whole(there[f][1], len(bounds))
                for k in range(6):
                    held = [draw.choice([a, b, draw.randint(a, b)]) for a, b in bounds]
                    value, steps = run(tree, held, there)
                    self.assertTrue(lo <= value <= hi and steps <= cost)
                    other = [held[k] if k in deps else draw.randint(a, b) for k, (a, b) in enumerate(bounds)]
                    self.assertEqual(run(tree, other, there)[0], value)
                    runs += 1
        self.assertGreater(runs, 500)

    def test_runs_lie_within_what_is_inferred(self):
        runs = 0
        for seed in range(200, 230):
            source = Source(seed)
            asked, wanted = source.line(80)
            infers = [(source.params(), source.draw.choice([3, 8, 20, 30])) for k in range(20)]
            infers = [(params, source.expression(size, len(params) // 2)) for params, size in infers]
            rows = [helper.infer(params, row) for params, row in infers]
            told = helper.ask(*asked, *[[7, f] for f in range(16)], *[[8, f] for f in range(16)], *rows)
            there = programs_there(told[-52:-20])
            for (params, row), answer in zip(infers, told[-20:]):
                if answer[0] < 0:
                    continue
                least, most, deps, cost = answer[1:]
                pairs = list(zip(params[::2], params[1::2]))
                for k in range(6):
                    held = [source.draw.choice([a, b, source.draw.randint(a, b)]) for a, b in pairs]
                    value, steps = run(whole(row, len(held)), held, there)
                    self.assertTrue(least <= value <= most and steps <= cost)
                    other = [held[k] if deps >> k & 1 else source.draw.randint(*pairs[k]) for k in range(len(held))]
                    self.assertEqual(run(whole(row, len(held)), other, there)[0], value)
                    runs += 1
        self.assertGreater(runs, 500)


class RunsHold(unittest.TestCase):
    """a: each that's there, run by the house itself."""

    def test_every_program_keeps_its_word(self):
        runs, freed = 0, 0
        for seed in range(300, 360):
            source = Source(seed)
            asked, wanted = source.line(140)
            there = {f: source.model.told[f][-1] for f in sorted(source.model.told)}
            pairs = []
            for f in there:
                bounds, lo, hi, deps, cost = there[f][0]
                for k in range(8):
                    held = [source.draw.choice([a, b, source.draw.randint(a, b)]) for a, b in bounds]
                    pairs.append((f, held, [held[k] if k in deps else source.draw.randint(a, b)
                                            for k, (a, b) in enumerate(bounds)]))
            pairs = pairs[:70]
            given = helper.ask(*asked, *[helper.evaluate(f, *args) for f, held, other in pairs for args in (held, other)])
            given = given[len(asked):]
            for (f, held, other), one, two in zip(pairs, given[::2], given[1::2]):
                bounds, lo, hi, deps, cost = there[f][0]
                for answer in (one, two):
                    self.assertEqual(answer[0], 0)
                    self.assertTrue(lo <= answer[1] <= hi and 1 <= answer[2] <= cost, (f, answer))
                self.assertEqual(one[1], two[1])
                runs, freed = runs + 1, freed + (held != other)
        self.assertGreater(runs, 500)
        self.assertGreater(freed, 100)


class CellsHold(unittest.TestCase):
    def test_cells_lie_within_their_bounds(self):
        ran = 0
        for seed in range(400, 430):
            source = Source(seed, 0.7)
            asked, wanted = source.line(200)
            cells = (0, 1, 2, 3, 4, 5, 31)
            told = helper.ask(*asked, *[one for k in cells for one in (helper.seen(k), helper.how(k))])[len(asked):]
            for at, k in enumerate(cells):
                zero, mask, lo, hi = told[2 * at]
                ran += told[2 * at + 1][0] == 2
                for who in sorted(members(mask)):
                    value = helper.last(*asked, helper.read(who, k))
                    self.assertTrue(value[0] == 0 and lo <= value[1] <= hi)
        self.assertGreater(ran, 50)

    def other_values(self, asked, blind, draw):
        """The line with other values put where this one may not see them."""
        changed = []
        for row in asked:
            if row[0] == 13 and not row[6] >> blind & 1 and row[3] <= row[5] <= row[4]:
                row = row[:5] + [draw.choice([row[3], row[4], draw.randint(row[3], row[4])])] + row[6:]
            changed.append(row)
        return changed

    def told_to(self, asked, blind):
        """All that's told, but what others read."""
        rows = helper.ask(*asked)
        return [rows[k] for k in range(len(asked)) if asked[k][0] != 17 or asked[k][1] == blind], rows

    def test_seen_only_by_who_may(self):
        others_saw = 0
        for seed in range(500, 560):
            source = Source(seed, 0.75)
            asked, wanted = source.line(230)
            for blind in (0, 1, 2, 15):
                reads = [helper.read(who, k) for who in (blind, 3, 1) for k in (0, 1, 2, 3, 4, 5, 31)]
                one, all_one = self.told_to(asked + reads, blind)
                two, all_two = self.told_to(self.other_values(asked, blind, source.draw) + reads, blind)
                self.assertEqual(one, two, (seed, blind))
                others_saw += all_one != all_two
        # That the other values were seen by those who may tells that there was something to be kept from sight.
        self.assertGreater(others_saw, 100)

    def test_results_of_what_is_hidden_are_seen_by_who_may(self):
        twice = helper.define(0, 7, [0, 9], (0, 18), 1, 3, helper.plus(helper.var(0), helper.var(0)))
        for v in range(10):
            asked = [twice, helper.put(3, 5, (0, 9), v, 0b1010), helper.run(1, 7, 6, 5)]
            given = helper.ask(*asked, helper.read(1, 6), helper.read(3, 6), helper.read(0, 6), helper.run(0, 7, 8, 6),
                               helper.read(0, 8))
            self.assertEqual(given[3:], [[0, 2 * v], [0, 2 * v], [-13], [-13], [0, 0]])


if __name__ == "__main__":
    unittest.main()
