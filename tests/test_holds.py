"""What holds (b, c, f) over many lines, and every answer held against a second telling of the words.

The lines are drawn by a seeded source, so they are the same each time.
"""

import random
import unittest

import helper
from helper import MOST

LIMIT = 2 ** 32


class Unknown(Exception):
    pass


def parse(row, at, sight):
    """The tree of the expression at this place, and where it ends."""
    if at >= len(row):
        raise Unknown
    kind = row[at]
    if kind > 11 or at + {0: 1, 1: 1, 11: 2}.get(kind, 0) >= len(row):
        raise Unknown
    if kind == 0:
        return (0, row[at + 1]), at + 2
    if kind == 1:
        if row[at + 1] >= sight:
            raise Unknown
        return (1, row[at + 1]), at + 2
    if kind == 10:
        held, at = parse(row, at + 1, sight)
        within, at = parse(row, at, sight + 1)
        return (10, held, within), at
    if kind == 11:
        tree, many, at = [11, row[at + 1]], row[at + 2], at + 3
    else:
        tree, many, at = [kind], 3 if kind == 9 else 2, at + 1
    if many > len(row):
        raise Unknown
    for k in range(many):
        part, at = parse(row, at, sight)
        tree.append(part)
    return tuple(tree), at


def whole(row, sight):
    tree, end = parse(row, 0, sight)
    if end != len(row):
        raise Unknown
    return tree


def fact(tree, sight, words):
    """(least, most, deps, steps); sight holds (least, most, deps) of each variable."""
    kind = tree[0]
    if kind == 0:
        return tree[1], tree[1], frozenset(), 1
    if kind == 1:
        return sight[tree[1]] + (1,)
    if kind == 10:
        held = fact(tree[1], sight, words)
        within = fact(tree[2], sight + [held[:3]], words)
        return within[:3] + (held[3] + within[3] + 1,)
    if kind == 11:
        parts = [fact(part, sight, words) for part in tree[2:]]
        if tree[1] not in words or len(words[tree[1]][0]) != len(parts):
            raise Unknown
        bounds, lo, hi, deps, cost = words[tree[1]]
        if not all(lo2 <= p[0] and p[1] <= hi2 for p, (lo2, hi2) in zip(parts, bounds)):
            raise Unknown
        union = frozenset().union(*[p[2] for k, p in enumerate(parts) if k in deps])
        return lo, hi, union, sum(p[3] for p in parts) + cost + 1
    parts = [fact(part, sight, words) for part in tree[1:]]
    union = frozenset().union(*[p[2] for p in parts])
    if kind == 9:
        c, a, b = parts
        return min(a[0], b[0]), max(a[1], b[1]), union, c[3] + max(a[3], b[3]) + 1
    a, b = parts
    least, most = {
        2: lambda: (a[0] + b[0], a[1] + b[1]),
        3: lambda: (max(a[0] - b[1], 0), max(a[1] - b[0], 0)),
        4: lambda: (a[0] * b[0], a[1] * b[1]),
        5: lambda: (a[0] // b[1], a[1] // b[0]) if b[0] else (0, LIMIT),
        6: lambda: (min(a[0], b[0]), min(a[1], b[1])),
        7: lambda: (max(a[0], b[0]), max(a[1], b[1])),
        8: lambda: (1, 1) if a[1] < b[0] else (0, 0) if b[1] <= a[0] else (0, 1),
    }[kind]()
    if most >= LIMIT:
        raise Unknown
    return least, most, union, a[3] + b[3] + 1


def known(bounds, row, words):
    try:
        tree = whole(row, len(bounds))
        return fact(tree, [(lo, hi, frozenset([k])) for k, (lo, hi) in enumerate(bounds)], words)
    except Unknown:
        return None


def keeps(word, row, words):
    bounds, lo, hi, deps, cost = word
    got = known(bounds, row, words)
    return got is not None and lo <= got[0] and got[1] <= hi and got[2] <= deps and got[3] <= cost


def run(tree, held, programs):
    """The value and how many steps it took; programs: f to (word, body)."""
    kind = tree[0]
    if kind == 0:
        return tree[1], 1
    if kind == 1:
        return held[tree[1]], 1
    if kind == 9:
        c = run(tree[1], held, programs)
        taken = run(tree[2] if c[0] else tree[3], held, programs)
        return taken[0], c[1] + taken[1] + 1
    if kind == 10:
        first = run(tree[1], held, programs)
        second = run(tree[2], held + [first[0]], programs)
        return second[0], first[1] + second[1] + 1
    parts = [run(part, held, programs) for part in tree[(2 if kind == 11 else 1):]]
    steps = sum(part[1] for part in parts) + 1
    if kind == 11:
        word, row = programs[tree[1]]
        got = run(whole(row, len(parts)), [part[0] for part in parts], programs)
        return got[0], steps + got[1]
    a, b = parts[0][0], parts[1][0]
    value = {2: lambda: a + b, 3: lambda: max(a - b, 0), 4: lambda: a * b, 5: lambda: a // b, 6: lambda: min(a, b),
             7: lambda: max(a, b), 8: lambda: int(a < b)}[kind]()
    if value >= LIMIT:
        raise OverflowError
    return value, steps


def bits(many):
    return sum(1 << k for k in many)


def members(deps):
    return frozenset(k for k in range(32) if deps >> k & 1)


class Model:
    """The words of the document, told a second time."""

    def __init__(self):
        self.begin()

    def begin(self):
        self.owner, self.versions, self.entries = {}, {}, 0
        return [0]

    def words(self, **changed):
        words = {f: versions[-1][0] for f, versions in self.versions.items()}
        words.update(changed.get("also", {}))
        return words

    def well(self, params, row):
        pairs = list(zip(params[::2], params[1::2]))
        return len(pairs) <= 4 and all(lo <= hi < LIMIT for lo, hi in pairs) and len(row) <= 200

    def against(self, f, word, row):
        words = self.words(also={f: word})
        if not keeps(word, row, words):
            return -33
        if not all(keeps(*versions[-1], words) for g, versions in self.versions.items() if g != f):
            return -17
        return 0

    def would(self, who, f, params, result, deps, cost, row):
        lo, hi = result
        many = len(params) // 2
        if who > 15 or f > 15 or not self.well(params, row) or not lo <= hi < LIMIT:
            return [-22]
        if deps >= 2 ** many or cost > 20000:
            return [-22]
        if self.owner.get(f, who) != who:
            return [-1]
        if len(self.versions.get(f, [])) == 8 or self.entries == 128:
            return [-28]
        word = (list(zip(params[::2], params[1::2])), lo, hi, members(deps), cost)
        return [self.against(f, word, row) or len(self.versions.get(f, []))]

    def define(self, who, f, params, result, deps, cost, row):
        answer = self.would(who, f, params, result, deps, cost, row)
        if answer[0] >= 0:
            word = (list(zip(params[::2], params[1::2])), result[0], result[1], members(deps), cost)
            self.owner[f] = who
            self.versions.setdefault(f, []).append((word, row))
            self.entries += 1
        return answer

    def hand(self, who, f):
        return -2 if f not in self.owner else -1 if self.owner[f] != who else 0

    def drop(self, who, f):
        refusal = self.hand(who, f) or (-28 if self.entries == 128 else 0) or (-17 if self.callers(f)[0] > 0 else 0)
        if not refusal:
            self.owner.pop(f)
            self.versions.pop(f)
            self.entries += 1
        return [refusal]

    def back(self, who, f):
        refusal = self.hand(who, f) or (-6 if len(self.versions[f]) == 1 else 0)
        refusal = refusal or (-28 if self.entries == 128 else 0) or self.against(f, *self.versions[f][-2])
        if refusal:
            return [refusal]
        self.versions[f].pop()
        self.entries += 1
        return [len(self.versions[f])]

    def give(self, who, f, to):
        refusal = self.hand(who, f) or (-22 if to > 15 else 0)
        if not refusal:
            self.owner[f] = to
        return [refusal]

    def infer(self, params, row):
        if not self.well(params, row):
            return [-22]
        got = known(list(zip(params[::2], params[1::2])), row, self.words())
        return [-33] if got is None else [0, got[0], got[1], bits(got[2]), got[3]]

    def word(self, f):
        if f not in self.owner:
            return [-2]
        bounds, lo, hi, deps, cost = self.versions[f][-1][0]
        return [len(bounds)] + [number for bound in bounds for number in bound] + [lo, hi, bits(deps), cost]

    def body(self, f):
        return [-2] if f not in self.owner else [len(self.versions[f][-1][1])] + self.versions[f][-1][1]

    def called(self, f):
        def walk(tree):
            inner = [walk(part) for part in tree[1:] if isinstance(part, tuple)]
            return frozenset([tree[1]] if tree[0] == 11 else []).union(*inner)
        word, row = self.versions[f][-1]
        return walk(whole(row, len(word[0])))

    def calls(self, f):
        if f not in self.owner:
            return [-2]
        return [len(self.called(f))] + sorted(self.called(f))

    def callers(self, f):
        if f not in self.owner:
            return [-2]
        found = sorted(g for g in self.owner if f in self.called(g))
        return [len(found)] + found


class Source:
    """Draws calls that are mostly near the edge of being taken."""

    def __init__(self, seed):
        self.draw = random.Random(seed)
        self.model = Model()

    def number(self):
        return self.draw.choice([0, 0, 1, 1, 2, 3, 5, 9, 100, 65535, 65536, MOST - 1, MOST])

    def expression(self, size, sight):
        draw = self.draw
        kind = draw.choice([0, 1, 1, 2, 3, 4, 5, 6, 7, 8, 9, 10, 11, 11, 11]) if size > 1 else draw.choice([0, 1])
        if kind == 1 and sight == 0 and draw.random() < 0.95:
            kind = 0
        if kind == 0:
            return [0, self.number()]
        if kind == 1:
            return [1, draw.randrange(sight + (draw.random() < 0.02) or 1)]
        if kind == 11:
            return self.call(size, sight)
        many = 3 if kind == 9 else 2
        row = [kind]
        for k in range(many):
            part = self.expression(size // many, sight + (kind == 10 and k == 1))
            if kind == 5 and k == 1:
                part = [7, 0, draw.choice([0, 1, 1, 2, 9])] + part
            if kind == 4:
                part = [6, 0, draw.choice([9, 65535, 65536])] + part
            row += part
        return row

    def call(self, size, sight):
        words = self.model.words()
        if not words or self.draw.random() < 0.03:
            return [11, self.draw.randrange(18), 0]
        f = self.draw.choice(sorted(words))
        bounds = words[f][0]
        row = [11, f, len(bounds)]
        for lo, hi in bounds:
            part = self.expression(size // (len(bounds) + 1), sight)
            row += [7, 0, lo, 6, 0, hi] + part if self.draw.random() < 0.9 else part
        return row

    def params(self):
        row = []
        for k in range(self.draw.choice([0, 1, 1, 2, 2, 3, 4])):
            pair = sorted([self.number(), self.number()])
            row += pair
        if row and self.draw.random() < 0.02:
            row = row[::-1]
        return row

    def telling(self):
        draw = self.draw
        params = self.params()
        row = self.expression(draw.choice([1, 3, 8, 20]), len(params) // 2)
        f = draw.choice([0, 1, 2, 3, 4, 5, 15] * 3 + [16])
        old = self.model.versions.get(f)
        if old and draw.random() < 0.5:
            params = [number for bound in old[-1][0][0] for number in bound]
            row = draw.choice([old[-1][1], self.expression(8, len(params) // 2)])
        if draw.random() < 0.04:
            row = draw.choice([row[:-1], row + [0, 0], row + [draw.randrange(14)]])
        got = known(list(zip(params[::2], params[1::2])), row, self.model.words()) if len(params) <= 8 else None
        lo, hi, deps, cost = got or (0, MOST, frozenset(), 50)
        lo = max(0, lo - draw.choice([0, 0, 0, 1, 5]) + (draw.random() < 0.05))
        hi = min(MOST, hi + draw.choice([0, 0, 0, 1, 100, MOST]) - (draw.random() < 0.05 and hi > 0))
        cost = cost + draw.choice([0, 0, 0, 1, 20, 200]) - (draw.random() < 0.05)
        deps = bits(deps) | (draw.randrange(17) & (2 ** (len(params) // 2) - 1) if draw.random() < 0.2 else 0)
        if draw.random() < 0.03:
            deps = draw.randrange(32)
        return self.who(f), f, params, (lo, hi), deps, cost, row

    def who(self, f):
        owner = self.model.owner.get(f)
        if owner is None or self.draw.random() < 0.05:
            return self.draw.choice([0, 1, 2, 15, 16])
        return owner

    def one(self):
        """The name of a call and what it's handed."""
        name = self.draw.choice(["define"] * 8 + ["would"] * 2 + ["drop", "back", "back", "back", "give", "infer", "infer",
                                                             "word", "body", "calls", "callers"])
        if name in ("define", "would"):
            return name, self.telling()
        if name == "infer":
            params = self.params()
            return name, (params, self.expression(12, len(params) // 2))
        f = self.draw.choice([0, 1, 2, 3, 4, 5, 15, 15, 16])
        if name in ("word", "body", "calls", "callers"):
            return name, (f,)
        if name == "give":
            return name, (self.who(f), f, self.draw.choice([0, 1, 2, 15, 16]))
        return name, (self.who(f), f)

    def line(self, many, entries=0):
        """A line of calls and what the model answers to each; the first ones only make entries."""
        asked, wanted = [], []
        while len(asked) < many and sum(len(one) for one in asked) < 29000:
            if len(asked) < entries:
                telling = "define", (3, 9, [], (0, 0), 0, 1, [0, 0])
                name, handed = telling if len(asked) % 2 == 0 else ("drop", (3, 9))
            else:
                name, handed = ("begin", ()) if self.draw.random() < 0.001 else self.one()
            asked.append(getattr(helper, name)(*handed))
            wanted.append((name, getattr(self.model, name)(*handed)))
        return asked, wanted


def programs_there(told):
    """f to (word, body) of who is there, by 16 answers of word and then 16 of body."""
    there = {}
    for f in range(16):
        row = told[f]
        if row != [-2]:
            many = row[0]
            bounds = list(zip(row[1:1 + 2 * many:2], row[2:2 + 2 * many:2]))
            lo, hi, deps, cost = row[1 + 2 * many:]
            there[f] = ((bounds, lo, hi, members(deps), cost), told[16 + f][1:])
    return there


class AgainstTheModel(unittest.TestCase):
    def test_lines(self):
        seen = {}
        for seed in range(60):
            asked, wanted = Source(seed).line(240, 100 if seed % 3 == 0 else 0)
            given = helper.ask(*asked)
            for k, (name, answer) in enumerate(wanted):
                self.assertEqual(given[k], answer, (seed, k, name, asked[k]))
                code = answer[0] if answer[0] < 0 else "taken"
                seen[name, code] = seen.get((name, code), 0) + 1
        refusals = {"define": (-22, -1, -28, -33, -17), "would": (-22, -1, -28, -33, -17), "drop": (-2, -1, -28, -17),
                    "back": (-2, -1, -6, -28, -33, -17), "give": (-2, -1, -22), "infer": (-22, -33), "word": (-2,),
                    "body": (-2,), "calls": (-2,), "callers": (-2,)}
        for name in refusals:
            for code in refusals[name] + ("taken",):
                self.assertGreater(seen.get((name, code), 0), 0, (name, code))


class Holds(unittest.TestCase):
    def lines(self):
        for seed in range(100, 140):
            asked, wanted = Source(seed).line(200)
            told = helper.ask(*asked, *[[7, f] for f in range(16)], *[[8, f] for f in range(16)])
            yield random.Random(seed), programs_there(told[-32:])

    def test_every_body_keeps_its_word_by_the_words_in_force(self):
        for draw, there in self.lines():
            words = {f: there[f][0] for f in there}
            for f in there:
                self.assertTrue(keeps(*there[f], words), f)

    def test_nobody_calls_itself_by_however_many(self):
        for seed in range(100, 140):
            asked, wanted = Source(seed).line(200)
            told = helper.ask(*asked, *[[9, f] for f in range(16)])[-16:]
            called = {f: told[f][1:] for f in range(16) if told[f] != [-2]}
            while called:
                lone = [f for f in called if not any(g in called for g in called[f])]
                self.assertTrue(lone, called)
                for f in lone:
                    called.pop(f)

    def test_runs_lie_within_what_is_told(self):
        runs = 0
        for draw, there in self.lines():
            for f in there:
                bounds, lo, hi, deps, cost = there[f][0]
                tree = whole(there[f][1], len(bounds))
                for k in range(6):
                    held = [draw.choice([a, b, draw.randint(a, b)]) for a, b in bounds]
                    value, steps = run(tree, held, there)
                    self.assertTrue(lo <= value <= hi and steps <= cost)
                    other = [held[k] if k in deps else draw.randint(a, b) for k, (a, b) in enumerate(bounds)]
                    self.assertEqual(run(tree, other, there)[0], value)
                    runs += 1
        self.assertGreater(runs, 500)

    def test_runs_lie_within_what_is_inferred(self):
        runs = 0
        for seed in range(200, 230):
            source = Source(seed)
            asked, wanted = source.line(80)
            infers = [(source.params(), source.draw.choice([3, 8, 20, 30])) for k in range(20)]
            infers = [(params, source.expression(size, len(params) // 2)) for params, size in infers]
            rows = [helper.infer(params, row) for params, row in infers]
            told = helper.ask(*asked, *[[7, f] for f in range(16)], *[[8, f] for f in range(16)], *rows)
            there = programs_there(told[-52:-20])
            for (params, row), answer in zip(infers, told[-20:]):
                if answer[0] < 0:
                    continue
                least, most, deps, cost = answer[1:]
                pairs = list(zip(params[::2], params[1::2]))
                for k in range(6):
                    held = [source.draw.choice([a, b, source.draw.randint(a, b)]) for a, b in pairs]
                    value, steps = run(whole(row, len(held)), held, there)
                    self.assertTrue(least <= value <= most and steps <= cost)
                    other = [held[k] if deps >> k & 1 else source.draw.randint(*pairs[k]) for k in range(len(held))]
                    self.assertEqual(run(whole(row, len(held)), other, there)[0], value)
                    runs += 1
        self.assertGreater(runs, 500)


if __name__ == "__main__":
    unittest.main()
