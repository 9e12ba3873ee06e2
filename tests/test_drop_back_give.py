"""Promise 3 (drop, back, give)."""

import unittest

from helper import (
    MOST, ask, back, body, call, callers, constant, define, drop, give, last, num, plus, var, word, would,
)


def full_log(*ahead):
    """A log of 128 entries whose first ones are these, each of which makes one."""
    asked = list(ahead)
    while len(asked) < 127:
        asked += [constant(9, 9), drop(9, 9)]
    if len(asked) == 127:
        asked.append(constant(9, 9))
    return asked


class Drop(unittest.TestCase):
    def test_it_is_gone_with_all_its_versions(self):
        given = ask(constant(1, 4, 5), constant(1, 4, 6), drop(1, 4), word(4), back(1, 4), drop(1, 4), constant(2, 4))
        self.assertEqual(given, [[0], [1], [0], [-2], [-2], [-2], [0]])

    def test_who_tells_it_next_has_it(self):
        given = ask(constant(1, 4), drop(1, 4), constant(2, 4), constant(1, 4), drop(1, 4), drop(2, 4))
        self.assertEqual(given, [[0], [0], [0], [-1], [-1], [0]])

    def test_not_there(self):
        for f in (0, 3, 15, 16, MOST):
            self.assertEqual(last(constant(1, 4), drop(1, f)), [-2])

    def test_not_yours(self):
        for who in (0, 2, 15, 16, MOST):
            self.assertEqual(last(constant(1, 4), drop(who, 4)), [-1])
            self.assertEqual(last(constant(1, 4), drop(who, 5)), [-2])

    def test_somebody_calls_it(self):
        before = [constant(1, 4), define(2, 5, [], (0, 0), 0, 2, call(4))]
        given = ask(*before, drop(1, 4), word(4), drop(2, 5), drop(1, 4), word(4))
        self.assertEqual(given[2:], [[-17], [0, 0, 0, 0, 1], [0], [0], [-2]])

    def test_somebody_called_it_in_an_earlier_version(self):
        before = [constant(1, 4), define(2, 5, [], (0, 0), 0, 2, call(4)), constant(2, 5)]
        self.assertEqual(last(*before, drop(1, 4)), [0])

    def test_who_calls_may_be_dropped(self):
        before = [constant(1, 4), define(2, 5, [], (0, 0), 0, 2, call(4))]
        self.assertEqual(ask(*before, drop(2, 5), callers(4))[2:], [[0], [0]])

    def test_order_of_refusals(self):
        called = [constant(1, 4), define(2, 5, [], (0, 0), 0, 2, call(4))]
        self.assertEqual(last(*called, drop(2, 4)), [-1])
        full = full_log(*called)
        self.assertEqual(len(full), 128)
        self.assertEqual(last(*full, drop(1, 4)), [-28])
        self.assertEqual(last(*full, drop(2, 5)), [-28])
        self.assertEqual(last(*full, drop(2, 4)), [-1])
        self.assertEqual(last(*full, drop(2, 3)), [-2])
        self.assertEqual(last(*full[:-1], drop(1, 4)), [-17])
        self.assertEqual(last(*full[:-1], drop(2, 5)), [0])


class Back(unittest.TestCase):
    def test_the_one_before_is_in_force_again(self):
        before = [constant(1, 4, 5), define(1, 4, [1, 2], (1, 2), 1, 3, var(0)), constant(1, 4, 7)]
        given = ask(*before, back(1, 4), word(4), body(4), back(1, 4), word(4), body(4), back(1, 4), constant(1, 4))
        self.assertEqual(given[3:], [[2], [1, 1, 2, 1, 2, 1, 3], [2, 1, 0], [1], [0, 5, 5, 0, 1], [2, 0, 5], [-6], [1]])

    def test_from_8_versions(self):
        before = [constant(1, 4, v) for v in range(8)]
        self.assertEqual(ask(*before, *[back(1, 4)] * 8)[8:], [[v] for v in range(7, 0, -1)] + [[-6]])

    def test_not_there_and_not_yours(self):
        before = [constant(1, 4, 5), constant(1, 4, 6)]
        for many in (0, 5, 15, 16, MOST):
            self.assertEqual(last(*before, back(1, many)), [-2])
            self.assertEqual(last(*before, back(many, 4)), [-1])
            self.assertEqual(last(*before, back(many, 3)), [-2])

    def test_one_version_only(self):
        self.assertEqual(last(constant(1, 4), back(1, 4)), [-6])
        self.assertEqual(last(constant(1, 4), back(2, 4)), [-1])

    def test_it_calls_who_is_dropped(self):
        before = [constant(1, 4), define(2, 5, [], (0, 0), 0, 2, call(4)), constant(2, 5, 3), drop(1, 4)]
        given = ask(*before, back(2, 5), word(5), constant(1, 4), back(2, 5), word(5))
        self.assertEqual(given[4:], [[-33], [0, 3, 3, 0, 1], [0], [1], [0, 0, 0, 0, 2]])

    def test_it_calls_who_promises_less_now(self):
        before = [constant(1, 4), define(2, 5, [], (0, 0), 0, 2, call(4)), constant(2, 5, 3)]
        less = define(1, 4, [], (0, 1), 0, 1, num(0))
        self.assertEqual(ask(*before, less, back(2, 5))[3:], [[1], [-33]])
        self.assertEqual(ask(*before, less, back(1, 4), back(2, 5))[3:], [[1], [1], [1]])

    def test_somebody_goes_by_the_word_that_would_be_gone(self):
        before = [define(1, 4, [], (0, 9), 0, 5, num(0)), constant(1, 4), define(2, 5, [], (0, 0), 0, 2, call(4))]
        given = ask(*before, back(1, 4), word(4), drop(2, 5), back(1, 4), word(4))
        self.assertEqual(given[3:], [[-17], [0, 0, 0, 0, 1], [0], [1], [0, 0, 9, 0, 5]])

    def test_callers_whom_the_word_before_is_enough(self):
        before = [define(1, 4, [], (0, 9), 0, 5, num(0)), constant(1, 4), define(2, 5, [], (0, 9), 0, 6, call(4))]
        self.assertEqual(last(*before, back(1, 4)), [1])

    def test_two_would_call_each_other(self):
        before = [constant(1, 4, 0, 10), define(1, 5, [], (0, 0), 0, 50, call(4)), constant(1, 4, 0, 10),
                  constant(1, 5, 0, 10), define(1, 4, [], (0, 0), 0, 20, call(5))]
        self.assertEqual(ask(*before, back(1, 5))[-2:], [[2], [-17]])
        before[1] = define(1, 5, [], (0, 0), 0, 15, call(4))
        self.assertEqual(ask(*before, back(1, 5))[-2:], [[2], [-33]])

    def test_order_of_refusals(self):
        one = [constant(1, 4)]
        self.assertEqual(last(*full_log(*one), back(1, 4)), [-6])
        two = [constant(1, 4), constant(1, 4)]
        self.assertEqual(last(*full_log(*two), back(1, 4)), [-28])
        self.assertEqual(last(*full_log(*two), back(2, 4)), [-1])
        self.assertEqual(last(*full_log(*two), back(1, 3)), [-2])
        self.assertEqual(last(*full_log(*two)[:-1], back(1, 4)), [1])
        gone = [constant(1, 4), define(2, 5, [], (0, 0), 0, 2, call(4)), constant(2, 5, 3), drop(1, 4)]
        self.assertEqual(last(*full_log(*gone), back(2, 5)), [-28])
        self.assertEqual(last(*full_log(*gone)[:-1], back(2, 5)), [-33])

    def test_not_kept_ahead_of_breaks(self):
        before = [constant(1, 4), define(1, 5, [], (0, 0), 0, 9, call(4)), constant(1, 5, 3), drop(1, 4),
                  define(1, 6, [], (3, 3), 0, 2, call(5))]
        self.assertEqual(last(*before, back(1, 5)), [-33])
        self.assertEqual(last(*before, constant(1, 4), back(1, 5)), [-17])


class Give(unittest.TestCase):
    def test_it_is_to_s(self):
        given = ask(constant(1, 4), give(1, 4, 15), constant(1, 4), drop(1, 4), back(1, 4), give(1, 4, 1),
                    constant(15, 4, 2), back(15, 4), drop(15, 4))
        self.assertEqual(given, [[0], [0], [-1], [-1], [-1], [-1], [1], [1], [0]])

    def test_to_oneself(self):
        self.assertEqual(ask(constant(1, 4), give(1, 4, 1), drop(1, 4)), [[0], [0], [0]])

    def test_refusals_in_their_order(self):
        for many in (16, 17, MOST):
            self.assertEqual(last(constant(1, 4), give(1, 4, many)), [-22])
            self.assertEqual(last(constant(1, 4), give(2, 4, many)), [-1])
            self.assertEqual(last(constant(1, 4), give(many, 4, 1)), [-1])
            self.assertEqual(last(constant(1, 4), give(1, 5, many)), [-2])
            self.assertEqual(last(constant(1, 4), give(1, many, 1)), [-2])
            self.assertEqual(last(constant(1, 4), give(many, many, many)), [-2])

    def test_a_refusal_changes_nothing(self):
        self.assertEqual(last(constant(1, 4), give(1, 4, 16), constant(1, 4)), [1])
        self.assertEqual(last(constant(1, 4), give(2, 4, 2), would(2, 4, [], (0, 0), 0, 1, num(0))), [-1])

    def test_nothing_else_is_changed(self):
        before = [constant(1, 4), constant(1, 4, 3), define(1, 5, [], (4, 4), 0, 4, plus(call(4), num(1)))]
        given = ask(*before, give(1, 4, 2), word(4), callers(4), back(2, 4), constant(2, 4, 3))
        self.assertEqual(given[3:], [[0], [0, 3, 3, 0, 1], [1, 5], [-17], [2]])

    def test_a_full_log_is_no_hindrance(self):
        self.assertEqual(last(*full_log(constant(1, 4)), give(1, 4, 2)), [0])


if __name__ == "__main__":
    unittest.main()
