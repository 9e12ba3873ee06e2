"""Promise 5 (word, body, calls, callers)."""

import unittest

from helper import (
    MOST, ask, back, body, call, callers, calls, choice, constant, define, drop, last, let, num, plus, var, word,
)


class Word(unittest.TestCase):
    def test_no_bounds(self):
        self.assertEqual(last(constant(0, 7, 3, 9), word(7)), [0, 3, 3, 0, 9])

    def test_four_bounds(self):
        told = define(0, 7, [1, 2, 3, 4, 5, 6, 7, MOST], (0, MOST), 15, 20000, var(2))
        self.assertEqual(last(told, word(7)), [4, 1, 2, 3, 4, 5, 6, 7, MOST, 0, MOST, 15, 20000])

    def test_it_is_as_told_not_as_inferred(self):
        told = define(0, 7, [1, 2], (0, 50), 1, 99, num(3))
        self.assertEqual(last(told, word(7)), [1, 1, 2, 0, 50, 1, 99])


class Body(unittest.TestCase):
    def test_it_is_as_told(self):
        told = let(var(0), plus(var(1), num(MOST - 9)))
        given = last(define(0, 7, [0, 9], (0, MOST), 1, 9, told), body(7))
        self.assertEqual(given, [len(told)] + told)

    def test_200_numbers(self):
        told = [2] * 66 + num(1) * 67
        self.assertEqual(last(define(0, 7, [], (67, 67), 0, 133, told), body(7)), [200] + told)


class Calls(unittest.TestCase):
    def before(self):
        return [constant(0, f, f) for f in (2, 9, 14)]

    def test_rising_and_once_each(self):
        told = plus(call(14), plus(call(2), plus(call(9), plus(call(2), call(14)))))
        given = ask(*self.before(), define(0, 5, [], (0, 99), 0, 99, told), calls(5))
        self.assertEqual(given[-1], [3, 2, 9, 14])

    def test_nobody(self):
        self.assertEqual(last(constant(0, 5), calls(5)), [0])
        self.assertEqual(last(constant(0, 5), callers(5)), [0])

    def test_a_number_that_looks_like_a_call(self):
        told = plus(num(11), plus(num(2), num(0)))
        self.assertEqual(last(*self.before(), define(0, 5, [], (13, 13), 0, 5, told), calls(5)), [0])

    def test_where_calls_may_stand(self):
        told = [choice(call(2), num(1), num(1)), choice(num(0), call(2), num(1)), choice(num(1), num(1), call(2)),
                let(call(2), num(1)), let(num(1), call(2))]
        for one in told:
            self.assertEqual(last(*self.before(), define(0, 5, [], (0, 99), 0, 99, one), calls(5)), [1, 2])

    def test_a_call_within_a_call(self):
        before = self.before() + [define(0, 3, [0, 99], (0, 99), 1, 1, var(0))]
        given = ask(*before, define(0, 5, [], (0, 99), 0, 99, call(3, call(2))), calls(5), callers(2), callers(3))
        self.assertEqual(given[-3:], [[2, 2, 3], [1, 5], [1, 5]])

    def test_not_those_whom_the_called_ones_call(self):
        before = self.before() + [define(0, 5, [], (2, 2), 0, 2, call(2)), define(0, 6, [], (2, 2), 0, 3, call(5))]
        given = ask(*before, calls(6), callers(2), callers(5), callers(6))
        self.assertEqual(given[-4:], [[1, 5], [1, 5], [1, 6], [0]])

    def test_callers_rising(self):
        asked = [constant(0, 3)]
        for f in (15, 0, 8, 4):
            asked.append(define(0, f, [], (0, 0), 0, 5, plus(call(3), call(3))))
        self.assertEqual(last(*asked, callers(3)), [4, 0, 4, 8, 15])

    def test_bodies_in_force_alone_count(self):
        before = self.before() + [define(0, 5, [], (0, 99), 0, 99, call(2)), define(0, 5, [], (0, 99), 0, 99, call(9))]
        given = ask(*before, calls(5), callers(2), callers(9), back(0, 5), calls(5), callers(2), callers(9),
                    drop(0, 5), callers(2))
        self.assertEqual(given[5:], [[1, 9], [0], [1, 5], [1], [1, 2], [1, 5], [0], [0], [0]])


class NotThere(unittest.TestCase):
    def test_not_there(self):
        for f in (0, 6, 8, 15, 16, 255, MOST):
            for asked in (word, body, calls, callers):
                self.assertEqual(last(constant(0, 7), asked(f)), [-2])

    def test_dropped(self):
        for asked in (word, body, calls, callers):
            self.assertEqual(last(constant(0, 7), drop(0, 7), asked(7)), [-2])


if __name__ == "__main__":
    unittest.main()
