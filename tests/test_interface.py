"""The interface: how calls are handed in, how answers are given back, and that nothing is kept."""

import unittest

from wordhold.programs import answers

from helper import (
    MOST, begin, call, clear, constant, define, evaluate, how, infer, lesser, let, log, many, narrow, num, plus, put, read, run,
    seen, told_apart, var, would,
)


class Numbers(unittest.TestCase):
    def test_begin_alone(self):
        self.assertEqual(answers([0]), [1, 0])

    def test_each_call_as_it_stands(self):
        line = [
            0,
            1, 3, 4, 5, 9, 1, 7, 2, 4, 8, 5, 2, 1, 0, 0, 1,
            2, 3, 4, 5, 9, 1, 7, 2, 4, 8, 5, 2, 1, 0, 0, 1,
            1, 3, 4, 2, 2, 0, 1, 0, 2, 0, 2,
            4, 3, 4,
            5, 3, 4, 6,
            6, 4, 1, 2, 3, 4, 2, 1, 1,
            7, 4,
            8, 4,
            9, 4,
            10, 4,
            3, 6, 4,
            7, 4,
            0,
        ]
        given = [
            1, 0,
            1, 0,
            1, 1,
            1, 1,
            1, 1,
            1, 0,
            5, 0, 3, 4, 2, 1,
            7, 1, 4, 8, 5, 9, 1, 7,
            6, 5, 2, 1, 0, 0, 1,
            1, 0,
            1, 0,
            1, 0,
            1, -2,
            1, 0,
        ]
        self.assertEqual(answers(line), given)

    def test_each_call_over_cells_as_it_stands(self):
        line = [
            0,
            1, 3, 4, 5, 9, 1, 7, 2, 4, 8, 5, 2, 1, 0, 0, 1,
            1, 3, 4, 0, 1, 1, 7, 4, 4, 8, 0, 1, 5, 8, 1, 0, 0, 2,
            11, 4,
            12, 4, 2, 5, 1,
            12, 4, 1, 5,
            13, 2, 30, 5, 7, 6, 12,
            14, 3, 4, 31, 2, 30, 0,
            14, 2, 4, 31, 2, 30, 0,
            17, 3, 31,
            17, 0, 31,
            17, 0, 30,
            18, 31,
            19, 31,
            15, 2, 31, 4,
            18, 31,
            19, 30,
            16, 2, 31,
            19, 31,
            20, 1,
            20, 2,
            21,
        ]
        given = [
            1, 0,
            1, 0,
            1, 1,
            2, 2, 3,
            3, 0, 0, 3,
            1, -22,
            1, 0,
            1, 0,
            1, 0,
            2, 0, 0,
            1, -13,
            1, -13,
            4, 0, 12, 0, 1,
            6, 2, 2, 4, 1, 30, 0,
            1, 0,
            4, 0, 4, 0, 1,
            2, 1, 2,
            1, 0,
            1, 0,
            3, 1, 3, 4,
            1, -2,
            2, 1, 2,
        ]
        self.assertEqual(answers(line), given)

    def test_empty_rows(self):
        self.assertEqual(answers([0, 6, 0, 0, 1, 0, 0, 0, 0, 0, 0, 0, 0]), [1, 0, 1, -33, 1, -33])

    def test_whole_numbers_alone_are_given_back(self):
        line = begin() + constant(0, 1) + define(0, 2, [0, 1], (0, 1), 1, 3, [8, 1, 0, 0, 1]) + infer([], [8, 0, 1, 0, 2])
        line += [7, 2, 8, 2, 9, 2, 10, 2, 7, 16, 11, 2, 12, 2, 1, 1, 12, 2, 1, 0]
        line += [13, 1, 5, 0, 1, 1, 7, 14, 1, 2, 6, 1, 5, 17, 1, 6, 18, 6, 19, 6, 15, 1, 6, 3, 16, 1, 6, 20, 0, 21]
        given = answers(line)
        self.assertIs(type(given), list)
        self.assertEqual({type(number) for number in given}, {int})

    def test_greatest_numbers_in_each_place(self):
        calls = [[1] + [MOST] * 6 + [20] + [MOST] * 20 + [300] + [MOST] * 300]
        calls.append([2] + calls[0][1:])
        calls += [[3, MOST, MOST], [4, MOST, MOST], [5, MOST, MOST, MOST]]
        calls.append([6, 20] + [MOST] * 20 + [300] + [MOST] * 300)
        calls += [[7, MOST], [8, MOST], [9, MOST], [10, MOST], [11, MOST], [12, MOST, 10] + [MOST] * 10]
        calls += [[13] + [MOST] * 6, [14, MOST, MOST, MOST, 10] + [MOST] * 10, [15, MOST, MOST, MOST], [16, MOST, MOST],
                  [17, MOST, MOST], [18, MOST], [19, MOST], [20, MOST], [21]]
        line = [0] + [number for one in calls for number in one]
        given = [1, 0, 1, -22, 1, -22, 1, -2, 1, -2, 1, -2, 1, -22, 1, -2, 1, -2, 1, -2, 1, -2, 1, -2, 1, -2]
        given += [1, -22] * 7 + [1, -2, 2, 0, 0]
        self.assertEqual(answers(line), given)

    def test_greatest_number_at_each_place_of_a_define(self):
        whole = define(0, 0, [0, 9], (0, 9), 1, 9, plus(var(0), num(0)))
        self.assertEqual(answers([0] + whole), [1, 0, 1, 0])
        wanted = {1: -22, 2: -22, 3: -22, 4: 0, 5: -22, 6: -22, 8: -22, 9: -33,
                  11: -33, 12: -33, 13: -33, 14: -33, 15: -33}
        for at in wanted:
            line = [0] + whole
            line[1 + at] = MOST
            self.assertEqual(answers(line), [1, 0, 1, wanted[at]], at)


class Long(unittest.TestCase):
    def test_300_calls(self):
        self.assertEqual(answers([0] * 300), [1, 0] * 300)

    def test_30000_numbers(self):
        line = [0]
        many = 0
        while len(line) + 209 <= 30000:
            line += would(0, 0, [], (0, MOST), 0, 20000, [2] * 66 + num(1) * 67)
            many += 1
        self.assertEqual(answers(line), [1, 0] + [1, 0] * many)

    def test_all_programs_long_and_told_anew(self):
        line = begin() + define(0, 0, [], (0, 1), 0, 1, num(1))
        long = [2] * 49 + call(0) * 50
        for f in range(1, 16):
            line += define(0, f, [], (0, 50), 0, 199, long)
        # 50 calls of 2 steps are just what the 15 promise, and each of them is looked through.
        for k in range(280):
            line += would(0, 0, [], (0, 1), 0, 2, num(1))
        line += would(0, 0, [], (0, 1), 0, 3, num(1))
        self.assertLessEqual(len(line), 30000)
        self.assertTrue(answers(line) == [1, 0] + [1, 0] * 16 + [1, 1] * 280 + [1, -17])


    def test_many_long_runs(self):
        # 19,363 steps each: four times 40 times 40 calls.
        line = begin() + define(0, 0, [], (0, 9), 0, 1, num(1))
        cost, most = 1, 9
        for f, parts in ((1, 40), (2, 40), (3, 4)):
            cost, most = parts * (cost + 1) + parts - 1, parts * most
            line += define(0, f, [], (0, most), 0, cost, [2] * (parts - 1) + call(f - 1) * parts)
        line += evaluate(3) * 20 + run(0, 3, 5) * 20 + read(0, 5)
        self.assertEqual(answers(line), [1, 0] * 5 + [3, 0, 6400, 19363] * 20 + [1, 0] * 20 + [2, 0, 6400])

    def test_runs_over_cells_in_a_row(self):
        more = define(0, 1, [0, 1000], (0, 1000), 1, 5, lesser(plus(var(0), num(1)), num(1000)))
        line = begin() + more + put(0, 5, (0, 1000), 3) + run(0, 1, 5, 5) * 297
        self.assertEqual(answers(line + read(0, 5)), [1, 0] * 300 + [2, 0, 300])


class Guarded(list):
    """A list that says so if it is changed, be it for a while."""

    def refuse(self, *handed):
        raise AssertionError("what is handed in is changed")

    append = extend = insert = pop = remove = clear = sort = reverse = refuse
    __setitem__ = __delitem__ = __iadd__ = __imul__ = refuse


class NothingKept(unittest.TestCase):
    def line(self):
        line = begin() + constant(0, 1) + define(0, 1, [1, 5], (1, 5), 1, 9, let(var(0), var(1)))
        line += infer([0, 9], plus(var(0), num(3))) + [7, 1, 8, 1, 11, 1] + evaluate(1, 3)
        line += put(2, 4, (2, 5), 3, 7) + run(1, 1, 4, 4) + read(1, 4) + seen(4) + how(4) + narrow(1, 4, 3) + clear(1, 4)
        return line + [4, 0, 1, 3, 0, 1] + log(0) + many()

    def test_the_line_is_taken(self):
        given = told_apart(answers(self.line()))
        self.assertTrue(all(answer[0] >= 0 for answer in given), given)

    def test_what_is_handed_in_is_not_changed(self):
        line = self.line()
        copy = list(line)
        answers(line)
        self.assertEqual(line, copy)

    def test_not_for_a_while_either(self):
        self.assertEqual(answers(Guarded(self.line())), answers(self.line()))

    def test_what_is_given_back_is_new(self):
        first = answers(self.line())
        copy = list(first)
        first.append(5)
        self.assertEqual(answers(self.line()), copy)

    def test_nothing_is_kept(self):
        answers(begin() + constant(3, 1) * 8)
        self.assertEqual(answers(begin() + [7, 1] + constant(0, 1)), [1, 0, 1, -2, 1, 0])
        # Even a line without its begin finds nothing of an earlier one.
        self.assertEqual(answers([7, 1]), [1, -2])

    def test_nothing_is_kept_in_cells(self):
        answers(begin() + put(3, 5, (4, 9), 7, 1) + constant(0, 1, 8) + run(0, 1, 6) + narrow(0, 6, 0))
        for k in (5, 6):
            self.assertEqual(answers(begin() + seen(k) + how(k) + read(4, k)), [1, 0, 4, 0, 65535, 0, 0, 1, 0, 2, 0, 0])
        self.assertEqual(answers(begin() + many()), [1, 0, 2, 0, 0])


if __name__ == "__main__":
    unittest.main()
