"""The language, what's known of an expression, and promise 4 (infer)."""

import unittest

from helper import (
    MOST, begin, below, call, choice, define, drop, ask, greater, infer, last, lesser, let, minus, num, plus,
    through, times, var,
)

NOTHING = [-33]


def known(params, body, *before):
    return last(*before, infer(params, body))


class Leaves(unittest.TestCase):
    def test_number(self):
        self.assertEqual(known([], num(7)), [0, 7, 7, 0, 1])
        self.assertEqual(known([], num(0)), [0, 0, 0, 0, 1])
        self.assertEqual(known([], num(MOST)), [0, MOST, MOST, 0, 1])
        self.assertEqual(known([1, 2], num(11)), [0, 11, 11, 0, 1])

    def test_variable_has_its_bound_and_itself_as_deps(self):
        params = [1, 2, 3, 4, 5, 6, 0, MOST]
        self.assertEqual(known(params, var(0)), [0, 1, 2, 1, 1])
        self.assertEqual(known(params, var(1)), [0, 3, 4, 2, 1])
        self.assertEqual(known(params, var(2)), [0, 5, 6, 4, 1])
        self.assertEqual(known(params, var(3)), [0, 0, MOST, 8, 1])

    def test_variable_that_is_not_there(self):
        self.assertEqual(known([], var(0)), NOTHING)
        self.assertEqual(known([1, 2], var(1)), NOTHING)
        self.assertEqual(known([1, 2, 3, 4, 5, 6, 7, 8], var(4)), NOTHING)
        self.assertEqual(known([1, 2], var(MOST)), NOTHING)
        self.assertEqual(known([], plus(num(1), var(0)) + num(3)), NOTHING)
        self.assertEqual(known([1, 2], let(var(1), var(0)) + num(3)), NOTHING)


class Pairs(unittest.TestCase):
    def test_plus(self):
        self.assertEqual(known([1, 5, 10, 20], plus(var(0), var(1))), [0, 11, 25, 3, 3])

    def test_plus_up_to_the_greatest_value(self):
        self.assertEqual(known([], plus(num(MOST - 1), num(1))), [0, MOST, MOST, 0, 3])
        self.assertEqual(known([], plus(num(MOST), num(1))), NOTHING)
        self.assertEqual(known([0, MOST], plus(var(0), num(0))), [0, 0, MOST, 1, 3])
        self.assertEqual(known([0, MOST], plus(var(0), num(1))), NOTHING)
        self.assertEqual(known([], plus(num(MOST), num(MOST))), NOTHING)

    def test_minus(self):
        self.assertEqual(known([10, 20, 1, 5], minus(var(0), var(1))), [0, 5, 19, 3, 3])
        self.assertEqual(known([3, 20, 1, 5], minus(var(0), var(1))), [0, 0, 19, 3, 3])
        self.assertEqual(known([1, 2, 3, 5], minus(var(0), var(1))), [0, 0, 0, 3, 3])
        self.assertEqual(known([0, MOST, 0, MOST], minus(var(0), var(1))), [0, 0, MOST, 3, 3])

    def test_times(self):
        self.assertEqual(known([2, 3, 5, 7], times(var(0), var(1))), [0, 10, 21, 3, 3])
        self.assertEqual(known([], times(num(65536), num(65535))), [0, 4294901760, 4294901760, 0, 3])
        self.assertEqual(known([], times(num(65537), num(65535))), [0, MOST, MOST, 0, 3])
        self.assertEqual(known([], times(num(65536), num(65536))), NOTHING)
        self.assertEqual(known([0, MOST, 0, MOST], times(var(0), var(1))), NOTHING)
        self.assertEqual(known([0, MOST], times(var(0), num(0))), [0, 0, 0, 1, 3])

    def test_through(self):
        self.assertEqual(known([10, 25, 2, 3], through(var(0), var(1))), [0, 3, 12, 3, 3])
        self.assertEqual(known([0, MOST, 1, MOST], through(var(0), var(1))), [0, 0, MOST, 3, 3])

    def test_through_a_bound_that_begins_at_0(self):
        self.assertEqual(known([1, 2, 0, 3], through(var(0), var(1))), NOTHING)
        self.assertEqual(known([1, 2, 0, 0], through(var(0), var(1))), NOTHING)
        self.assertEqual(known([], through(num(0), num(0))), NOTHING)
        self.assertEqual(known([0, 0, 1, 3], through(var(0), var(1))), [0, 0, 0, 3, 3])

    def test_lesser_and_greater(self):
        self.assertEqual(known([1, 9, 3, 5], lesser(var(0), var(1))), [0, 1, 5, 3, 3])
        self.assertEqual(known([1, 9, 3, 5], greater(var(0), var(1))), [0, 3, 9, 3, 3])
        self.assertEqual(known([3, 5, 1, 9], lesser(var(0), var(1))), [0, 1, 5, 3, 3])
        self.assertEqual(known([3, 5, 1, 9], greater(var(0), var(1))), [0, 3, 9, 3, 3])

    def test_below(self):
        self.assertEqual(known([1, 4, 5, 9], below(var(0), var(1))), [0, 1, 1, 3, 3])
        self.assertEqual(known([1, 5, 5, 9], below(var(0), var(1))), [0, 0, 1, 3, 3])
        self.assertEqual(known([5, 9, 1, 5], below(var(0), var(1))), [0, 0, 0, 3, 3])
        self.assertEqual(known([5, 9, 1, 6], below(var(0), var(1))), [0, 0, 1, 3, 3])
        self.assertEqual(known([5, 5, 5, 5], below(var(0), var(1))), [0, 0, 0, 3, 3])

    def test_deps_and_steps_of_nested_pairs(self):
        body = plus(lesser(var(0), num(3)), greater(var(2), minus(num(9), var(2))))
        self.assertEqual(known([0, 5, 0, 1, 0, 9], body), [0, 0, 12, 5, 9])


class ChoiceLetCall(unittest.TestCase):
    def test_choice(self):
        body = choice(var(0), plus(var(1), num(1)), var(2))
        self.assertEqual(known([0, 1, 10, 20, 5, 12], body), [0, 5, 21, 7, 5])
        body = choice(var(0), var(2), plus(plus(var(1), num(1)), num(1)))
        self.assertEqual(known([0, 1, 10, 20, 5, 12], body), [0, 5, 22, 7, 7])

    def test_choice_knows_both_even_where_c_is_plain(self):
        self.assertEqual(known([], choice(num(1), num(3), num(8))), [0, 3, 8, 0, 3])
        self.assertEqual(known([], choice(num(0), num(3), num(8))), [0, 3, 8, 0, 3])
        self.assertEqual(known([], choice(num(1), num(3), through(num(1), num(0)))), NOTHING)
        self.assertEqual(known([], choice(num(0), plus(num(MOST), num(1)), num(8))), NOTHING)

    def test_let(self):
        body = let(plus(var(0), num(1)), times(var(1), var(1)))
        self.assertEqual(known([2, 4], body), [0, 9, 25, 1, 7])

    def test_let_takes_the_deps_of_what_it_holds_alone(self):
        self.assertEqual(known([0, 9, 1, 2], let(var(0), var(1))), [0, 1, 2, 2, 3])
        self.assertEqual(known([0, 9, 1, 2], let(var(0), var(2))), [0, 0, 9, 1, 3])
        self.assertEqual(known([0, 9], let(var(0), num(5))), [0, 5, 5, 0, 3])

    def test_let_must_be_known_in_both(self):
        self.assertEqual(known([0, 9], let(through(num(1), var(0)), num(5))), NOTHING)
        self.assertEqual(known([0, 9], let(num(5), through(num(1), var(0)))), NOTHING)

    def test_lets_variable_is_there_within_it_alone(self):
        self.assertEqual(known([], let(num(3), var(0))), [0, 3, 3, 0, 3])
        self.assertEqual(known([], let(var(0), num(3))), NOTHING)
        self.assertEqual(known([], let(num(3), var(1))), NOTHING)
        self.assertEqual(known([], plus(let(num(3), var(0)), var(0))), NOTHING)
        self.assertEqual(known([], plus(let(num(3), var(0)), let(num(4), var(0)))), [0, 7, 7, 0, 7])

    def test_lets_within_lets(self):
        body = let(num(3), let(plus(var(0), num(1)), times(var(0), var(1))))
        self.assertEqual(known([], body), [0, 12, 12, 0, 9])
        body = let(let(num(3), plus(var(0), num(1))), var(0))
        self.assertEqual(known([], body), [0, 4, 4, 0, 7])
        body = let(let(num(3), var(0)), let(num(5), plus(var(0), times(var(1), num(10)))))
        self.assertEqual(known([], body), [0, 53, 53, 0, 11])

    def test_a_variable_takes_one_step_whatever_it_holds(self):
        body = let(plus(plus(num(1), num(1)), num(1)), plus(var(0), var(0)))
        self.assertEqual(known([], body), [0, 6, 6, 0, 9])

    def test_call_goes_by_the_word_alone(self):
        told = define(0, 3, [0, 10, 5, 9], (0, 100), 2, 50, var(1))
        self.assertEqual(known([2, 3, 5, 6], call(3, var(0), var(1)), told), [0, 0, 100, 2, 53])
        self.assertEqual(known([2, 3, 5, 6], call(3, var(0), num(5)), told), [0, 0, 100, 0, 53])
        self.assertEqual(known([2, 3, 5, 6], call(3, var(1), plus(var(0), num(3))), told), [0, 0, 100, 1, 55])

    def test_call_of_nobody(self):
        self.assertEqual(known([], call(3)), NOTHING)
        self.assertEqual(known([], call(16)), NOTHING)
        self.assertEqual(known([], call(MOST)), NOTHING)
        told = define(0, 3, [], (1, 1), 0, 1, num(1))
        self.assertEqual(known([], call(3), told), [0, 1, 1, 0, 2])
        self.assertEqual(known([], call(3), told, drop(0, 3)), NOTHING)
        self.assertEqual(known([], call(3), told, begin()), NOTHING)

    def test_call_with_as_many_arguments_as_bounds(self):
        told = define(0, 3, [0, 10, 5, 9], (0, 9), 2, 1, var(1))
        self.assertEqual(known([], call(3, num(0), num(5)), told), [0, 0, 9, 0, 4])
        self.assertEqual(known([], call(3, num(0)), told), NOTHING)
        self.assertEqual(known([], call(3), told), NOTHING)
        self.assertEqual(known([], call(3, num(0), num(5), num(5)), told), NOTHING)

    def test_call_with_arguments_that_just_fit(self):
        told = define(0, 3, [3, 10], (3, 10), 1, 1, var(0))
        self.assertEqual(known([3, 10], call(3, var(0)), told), [0, 3, 10, 1, 3])
        self.assertEqual(known([2, 10], call(3, var(0)), told), NOTHING)
        self.assertEqual(known([3, 11], call(3, var(0)), told), NOTHING)
        self.assertEqual(known([], call(3, num(2)), told), NOTHING)
        self.assertEqual(known([], call(3, num(11)), told), NOTHING)

    def test_call_with_four_arguments(self):
        told = define(0, 3, [0, 9] * 4, (0, 9), 10, 30, lesser(var(1), var(3)))
        body = call(3, var(0), var(1), var(2), var(3))
        self.assertEqual(known([0, 9] * 4, body, told), [0, 0, 9, 10, 35])

    def test_steps_may_pass_what_a_word_may_promise(self):
        told = define(0, 3, [], (1, 1), 0, 20000, num(1))
        self.assertEqual(known([], plus(call(3), call(3)), told), [0, 2, 2, 0, 40003])


class NoExpression(unittest.TestCase):
    def test_empty(self):
        self.assertEqual(known([], []), NOTHING)

    def test_something_behind_it(self):
        for rest in ([0], [0, 1], [12], [2], num(0) + num(0), [11, 0]):
            self.assertEqual(known([], num(1) + rest), NOTHING, rest)
            self.assertEqual(known([], plus(num(1), num(1)) + rest), NOTHING, rest)

    def test_unfinished(self):
        whole = choice(num(1), let(num(2), plus(var(0), num(3))), call(3, num(5)))
        told = define(0, 3, [0, 9], (0, 9), 1, 1, var(0))
        self.assertEqual(known([], whole, told), [0, 0, 9, 0, 7])
        for end in range(len(whole)):
            self.assertEqual(known([], whole[:end], told), NOTHING, end)

    def test_unknown_kinds(self):
        for kind in (12, 13, 255, MOST):
            self.assertEqual(known([], [kind]), NOTHING)
            self.assertEqual(known([], [kind, 0, 1, 0, 1]), NOTHING)
            self.assertEqual(known([], plus(num(1), [kind])), NOTHING)

    def test_more_arguments_told_than_there_are(self):
        told = define(0, 3, [], (1, 1), 0, 1, num(1))
        self.assertEqual(known([], [11, 3, 1], told), NOTHING)
        self.assertEqual(known([], [11, 3, MOST], told), NOTHING)
        self.assertEqual(known([], [11, 3, MOST, 0, 1], told), NOTHING)

    def test_numbers_of_leaves_are_no_kinds(self):
        self.assertEqual(known([], plus([0, 2], [0, 10])), [0, 12, 12, 0, 3])


class Long(unittest.TestCase):
    def test_deep_in_the_first_part(self):
        for kind, most in ((2, 67), (6, 1), (7, 1)):
            body = [kind] * 66 + num(1) * 67
            self.assertEqual(len(body), 200)
            self.assertEqual(known([], body), [0, most, most, 0, 133])

    def test_deep_in_the_last_part(self):
        body = (minus(num(9), [])) * 66 + num(4)
        self.assertEqual(len(body), 200)
        self.assertEqual(known([], body), [0, 4, 4, 0, 133])

    def test_deep_lets(self):
        first = [10] * 66 + num(1) + var(0) * 66
        self.assertEqual(len(first), 200)
        self.assertEqual(known([], first), [0, 1, 1, 0, 133])
        behind = let(num(7), []) * 66 + var(65)
        self.assertEqual(len(behind), 200)
        self.assertEqual(known([], behind), [0, 7, 7, 0, 133])
        self.assertEqual(known([], let(num(7), []) * 66 + var(66)), NOTHING)
        self.assertEqual(known([5, 6] * 4, let(num(7), []) * 66 + var(69)), [0, 7, 7, 0, 133])
        self.assertEqual(known([5, 6] * 4, let(num(7), []) * 66 + var(3)), [0, 5, 6, 8, 133])

    def test_deep_calls(self):
        told = define(0, 3, [0, 9], (0, 9), 1, 20000, var(0))
        body = [11, 3, 1] * 66 + num(4)
        self.assertEqual(len(body), 200)
        self.assertEqual(known([], body, told), [0, 0, 9, 0, 66 * 20001 + 1])

    def test_deep_choices(self):
        body = [9] * 39 + num(1) * 79
        self.assertEqual(known([], body), [0, 1, 1, 0, 79])

    def test_deep_and_unfinished(self):
        for kind in (2, 9, 10):
            self.assertEqual(known([], [kind] * 200), NOTHING)
        self.assertEqual(known([], [11, 0, 1] * 66), NOTHING)

    def test_200_numbers_and_201(self):
        body = [2] * 66 + num(1) * 67
        self.assertEqual(known([], body), [0, 67, 67, 0, 133])
        self.assertEqual(known([], body + [0]), [-22])
        told = define(0, 3, [], (1, 1), 0, 1, num(1))
        right = [2] * 66 + num(1) * 66 + call(3)
        self.assertEqual(len(right), 201)
        self.assertEqual(known([], right, told), [-22])
        self.assertEqual(known([], [2] * 300), [-22])


class Refusals(unittest.TestCase):
    def test_four_params_and_more(self):
        self.assertEqual(known([0, 1] * 4, num(1)), [0, 1, 1, 0, 1])
        for many in range(5, 11):
            self.assertEqual(known([0, 1] * many, num(1)), [-22])
            self.assertEqual(known([0, 1] * many, var(many - 1)), [-22])

    def test_bounds_turned_round(self):
        self.assertEqual(known([3, 3], num(1)), [0, 1, 1, 0, 1])
        self.assertEqual(known([4, 3], num(1)), [-22])
        self.assertEqual(known([MOST, 0], num(1)), [-22])
        for k in range(4):
            params = [0, 1] * 4
            params[2 * k] = 2
            self.assertEqual(known(params, num(1)), [-22])

    def test_a_bound_that_passes_all_values(self):
        self.assertEqual(known([0, MOST], num(1)), [0, 1, 1, 0, 1])
        self.assertEqual(known([0, MOST + 1], num(1)), [-22])

    def test_wrong_ahead_of_nothing_known(self):
        self.assertEqual(known([4, 3], []), [-22])
        self.assertEqual(known([0, 1] * 5, [12]), [-22])
        self.assertEqual(known([], [12] * 201), [-22])
        self.assertEqual(known([], [12] * 200), NOTHING)

    def test_greatest_numbers(self):
        self.assertEqual(known([MOST, MOST], var(0)), [0, MOST, MOST, 1, 1])
        self.assertEqual(known([MOST] * 8, [MOST] * 200), NOTHING)

    def test_infer_changes_nothing(self):
        told = define(0, 3, [], (1, 1), 0, 1, num(1))
        given = ask(told, infer([], call(3)), infer([], call(4)), infer([], call(3)), [7, 3])
        self.assertEqual(given[1:], [[0, 1, 1, 0, 2], NOTHING, [0, 1, 1, 0, 2], [0, 1, 1, 0, 1]])


if __name__ == "__main__":
    unittest.main()
