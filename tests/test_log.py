"""Promises 5 (versions) and 10 (log, many), and that what's refused changes nothing."""

import unittest

from helper import (
    MOST, ask, back, begin, body, call, callers, calls, clear, constant, define, drop, evaluate, full_log, give, how, infer,
    last, log, many, narrow, num, plus, put, read, run, seen, state, var, versions, word, would,
)


class Versions(unittest.TestCase):
    def test_how_many_and_whose(self):
        for who in (0, 3, 15):
            asked = []
            for k in range(8):
                asked.append(constant(who, 7, k))
                self.assertEqual(last(*asked, versions(7)), [k + 1, who])

    def test_a_ninth_is_none(self):
        self.assertEqual(ask(*[constant(3, 7, k) for k in range(9)], versions(7))[8:], [[-28], [8, 3]])

    def test_taken_back(self):
        asked = [constant(3, 7, k) for k in range(3)]
        given = ask(*asked, back(3, 7), versions(7), back(3, 7), versions(7), back(3, 7), versions(7))
        self.assertEqual(given[3:], [[2], [2, 3], [1], [1, 3], [-6], [1, 3]])

    def test_given(self):
        given = ask(constant(3, 7), give(3, 7, 5), versions(7), constant(3, 7), constant(5, 7), versions(7), back(5, 7),
                    versions(7))
        self.assertEqual(given[1:], [[0], [1, 5], [-1], [1], [2, 5], [1], [1, 5]])

    def test_dropped_and_told_by_another(self):
        given = ask(constant(3, 7), constant(3, 7), drop(3, 7), versions(7), constant(4, 7), versions(7))
        self.assertEqual(given[3:], [[-2], [0], [1, 4]])

    def test_not_there(self):
        for f in (0, 6, 8, 15, 16, MOST):
            self.assertEqual(last(constant(3, 7), versions(f)), [-2])
        self.assertEqual(last(constant(3, 7), begin(), versions(7)), [-2])


class Log(unittest.TestCase):
    def test_empty(self):
        for k in (0, 1, 127, 128, MOST):
            self.assertEqual(last(log(k)), [-2])

    def test_what_by_whom_and_which(self):
        asked = [constant(3, 7), constant(3, 7), constant(15, 0), back(3, 7), drop(15, 0), constant(0, 15)]
        given = ask(*asked, *[log(k) for k in range(7)])
        self.assertEqual(given[6:], [[1, 3, 7], [1, 3, 7], [1, 15, 0], [3, 3, 7], [2, 15, 0], [1, 0, 15], [-2]])

    def test_give_makes_no_entry_and_the_next_is_by_the_new_one(self):
        asked = [constant(3, 7), constant(3, 7), give(3, 7, 5), back(5, 7), give(5, 7, 6), drop(6, 7)]
        given = ask(*asked, *[log(k) for k in range(5)], many())
        self.assertEqual(given[6:], [[1, 3, 7], [1, 3, 7], [3, 5, 7], [2, 6, 7], [-2], [0, 4]])

    def test_would_and_asking_make_no_entry(self):
        asked = [constant(3, 7), would(3, 7, [], (0, 0), 0, 1, num(0)), would(3, 8, [], (0, 0), 0, 1, num(0)),
                 infer([], num(3)), word(7), body(7), calls(7), callers(7), versions(7), evaluate(7), log(0), many()]
        self.assertEqual(ask(*asked, log(0), log(1), many())[12:], [[1, 3, 7], [-2], [1, 1]])

    def test_cells_make_no_entry(self):
        asked = [constant(3, 7), put(3, 5, (0, 0), 0), run(3, 7, 6), narrow(3, 5, 3), clear(3, 5), read(3, 5), seen(5), how(5)]
        self.assertEqual(ask(*asked, log(1), many())[8:], [[-2], [1, 1]])

    def test_refusals_make_no_entry(self):
        asked = [constant(3, 7), define(3, 8, [], (1, 1), 0, 1, num(0)), define(4, 7, [], (0, 0), 0, 1, num(0)),
                 define(16, 8, [], (0, 0), 0, 1, num(0)), drop(3, 8), drop(4, 7), back(3, 7), back(4, 7), back(3, 8)]
        self.assertEqual(ask(*asked, log(1), many())[1:], [[-33], [-1], [-22], [-2], [-1], [-6], [-1], [-2], [-2], [1, 1]])

    def test_dropped_programs_stay_in_it(self):
        self.assertEqual(ask(constant(3, 7), drop(3, 7), log(0), log(1))[2:], [[1, 3, 7], [2, 3, 7]])

    def test_full(self):
        given = ask(*full_log(), log(0), log(1), log(126), log(127), log(128), many())
        self.assertEqual(given[128:], [[1, 3, 9], [2, 3, 9], [1, 3, 9], [2, 3, 9], [-2], [0, 128]])

    def test_up_to_full(self):
        almost = full_log()[:127]
        given = ask(*almost, many(), back(3, 9), drop(3, 9), many(), constant(3, 9), many(), log(127), log(128))
        self.assertEqual(given[127:], [[1, 127], [-6], [0], [0, 128], [-28], [0, 128], [2, 3, 9], [-2]])

    def test_full_with_programs_there(self):
        asked = [constant(1, 2, 4), constant(1, 2, 5)] + full_log()[:126]
        given = ask(*asked, constant(1, 2), would(1, 2, [], (0, 0), 0, 1, num(0)), back(1, 2), drop(1, 2), give(1, 2, 3),
                    versions(2), evaluate(2), many(), put(0, 0, (0, 9), 4), run(1, 2, 5), how(5), narrow(1, 5, 2), clear(1, 5))
        self.assertEqual(given[128:], [[-28], [-28], [-28], [-28], [0], [2, 3], [0, 5, 1], [1, 128], [0], [0], [2, 1, 2, 1],
                                       [0], [0]])

    def test_begin_empties_it(self):
        given = ask(*full_log(), begin(), log(0), many(), constant(4, 5), log(0), log(1), many())
        self.assertEqual(given[128:], [[0], [-2], [0, 0], [0], [1, 4, 5], [-2], [1, 1]])


class Many(unittest.TestCase):
    def test_nothing(self):
        self.assertEqual(last(many()), [0, 0])

    def test_programs_and_not_versions(self):
        self.assertEqual(last(constant(3, 7), constant(3, 7), constant(3, 8), many()), [2, 3])

    def test_sixteen(self):
        self.assertEqual(last(*[constant(3, f) for f in range(16)], many()), [16, 16])

    def test_dropped_and_taken_back(self):
        asked = [constant(3, 7), constant(3, 7), constant(3, 8), drop(3, 8), many(), back(3, 7), many(), drop(3, 7), many()]
        self.assertEqual(ask(*asked)[4::2], [[1, 4], [1, 5], [0, 6]])


class RefusedChangesNothing(unittest.TestCase):
    def house(self):
        """4 calls 2 and goes by its word; 5 has a version before that calls who's dropped."""
        return [
            define(1, 2, [0, 9], (0, 9), 1, 3, var(0)),
            define(1, 3, [], (6, 6), 0, 1, num(6)),
            define(2, 4, [0, 9], (0, 18), 1, 9, plus(call(2, var(0)), var(0))),
            define(2, 5, [], (6, 6), 0, 9, call(3)),
            define(2, 5, [], (6, 6), 0, 9, num(6)),
            drop(1, 3),
            define(2, 6, [], (3, 5), 0, 9, num(4)),
            define(1, 7, [0, 4], (0, 4), 1, 3, var(0)),
            define(1, 7, [0, 9], (0, 9), 1, 3, var(0)),
            define(2, 8, [5, 9], (0, 9), 1, 7, call(7, var(0))),
            put(1, 10, (0, 9), 4, 0b0110),
            put(2, 11, (0, 9), 7, 0b0100),
            put(2, 12, (0, 10), 7),
            put(2, 13, (0, 9), 7, 0),
            run(1, 4, 14, 10),
            run(2, 6, 31),
        ]

    def refused(self):
        same = ([0, 9], (0, 9), 1, 3, var(0))
        return [
            (define(16, 2, *same), -22), (define(1, 16, *same), -22), (define(2, 2, *same), -1),
            (define(1, 2, [0, 9], (0, 8), 1, 3, var(0)), -33), (define(1, 2, [0, 9], (0, 10), 1, 9, var(0)), -17),
            (drop(1, 3), -2), (drop(2, 2), -1), (drop(1, 2), -17),
            (back(1, 3), -2), (back(1, 5), -1), (back(1, 2), -6), (back(2, 5), -33), (back(1, 7), -17),
            (give(1, 3, 2), -2), (give(2, 2, 2), -1), (give(1, 2, 16), -22),
            (infer([9, 0], var(0)), -22), (infer([], var(0)), -33),
            (word(3), -2), (body(3), -2), (calls(3), -2), (callers(3), -2), (versions(3), -2),
            (evaluate(3), -2), (evaluate(2), -22), (evaluate(2, 10), -22),
            (put(16, 10, (0, 9), 5), -22), (put(1, 32, (0, 9), 5), -22), (put(1, 10, (9, 0), 5), -22),
            (put(1, 10, (0, 9), 10), -22), (put(1, 10, (0, 9), 5, 65536), -22),
            (run(16, 2, 10, 10), -22), (run(1, 2, 32, 10), -22), (run(1, 2, 10, 32), -22), (run(1, 3, 10, 10), -2),
            (run(1, 2, 10), -22), (run(1, 2, 10, 11), -13), (run(1, 2, 10, 13), -13), (run(1, 2, 10, 12), -71),
            (run(1, 2, 11, 11), -13), (run(1, 2, 12, 12), -71),
            (narrow(1, 32, 0), -22), (narrow(1, 10, 65536), -22), (narrow(2, 10, 0), -1), (narrow(1, 9, 0), -1),
            (narrow(2, 14, 0), -1), (clear(1, 32), -22), (clear(2, 10), -1), (clear(1, 9), -1), (clear(2, 14), -1),
            (read(16, 10), -22), (read(1, 32), -22), (read(0, 10), -13), (seen(32), -22), (how(32), -22), (log(10), -2),
        ]

    def test_the_house_is_as_told(self):
        given = ask(*self.house())
        self.assertEqual(given, [[0], [0], [0], [0], [1], [0], [0], [0], [1], [0]] + [[0]] * 6)

    def test_each(self):
        before = state(*self.house())
        for asked, answer in self.refused():
            self.assertEqual(last(*self.house(), asked), [answer], asked)
            self.assertEqual(state(*self.house(), asked), before, asked)

    def test_all_behind_one_another(self):
        refused = self.refused()
        given = ask(*self.house(), *[asked for asked, answer in refused])
        self.assertEqual(given[16:], [[answer] for asked, answer in refused])
        self.assertEqual(state(*self.house(), *[asked for asked, answer in refused]), state(*self.house()))

    def test_with_a_full_log(self):
        asked = [constant(1, 2, 4), constant(1, 2, 5)] + full_log()[:126]
        refused = [constant(1, 2), constant(1, 3), back(1, 2), drop(1, 2)]
        self.assertEqual(ask(*asked, *refused)[128:], [[-28]] * 4)
        self.assertEqual(state(*asked, *refused), state(*asked))

    def test_asking_changes_nothing_either(self):
        asked = [would(1, 3, [], (6, 6), 0, 1, num(6)), would(1, 2, [0, 9], (0, 9), 1, 3, var(0)), infer([], call(6)), word(2),
                 body(2), calls(4), callers(2), versions(5), evaluate(4, 9), read(1, 10), seen(10), how(14), log(3), many()]
        self.assertTrue(all(answer[0] >= 0 for answer in ask(*self.house(), *asked)))
        self.assertEqual(state(*self.house(), *asked), state(*self.house()))


if __name__ == "__main__":
    unittest.main()
