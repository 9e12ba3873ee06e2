"""When a body keeps a word, and promise 2 (define, would)."""

import unittest

from helper import (
    MOST, ask, back, begin, body, call, choice, constant, define, drop, give, infer, last, lesser, let, minus, num,
    plus, through, var, would, word,
)


class Both(unittest.TestCase):
    """Each telling is asked as would first, twice, and then as define: all answer alike."""

    def told(self, before, *telling):
        asked = list(before) + [would(*telling), would(*telling), define(*telling)]
        given = ask(*asked)[-3:]
        self.assertEqual(given[0], given[1])
        self.assertEqual(given[0], given[2])
        return given[2]


class Keeping(Both):
    def test_version_numbers_rise_from_0(self):
        given = ask(*[constant(2, 5, v) for v in range(8)])
        self.assertEqual(given, [[v] for v in range(8)])

    def test_result_bound_that_just_suffices(self):
        told = plus(var(0), num(3))
        self.assertEqual(self.told([], 0, 0, [2, 5], (5, 8), 1, 3, told), [0])
        self.assertEqual(self.told([], 0, 0, [2, 5], (6, 8), 1, 3, told), [-33])
        self.assertEqual(self.told([], 0, 0, [2, 5], (5, 7), 1, 3, told), [-33])
        self.assertEqual(self.told([], 0, 0, [2, 5], (0, MOST), 1, 3, told), [0])

    def test_steps_that_just_suffice(self):
        told = plus(var(0), num(3))
        self.assertEqual(self.told([], 0, 0, [2, 5], (5, 8), 1, 2, told), [-33])
        self.assertEqual(self.told([], 0, 0, [2, 5], (5, 8), 1, 20000, told), [0])
        self.assertEqual(self.told([], 0, 0, [], (1, 1), 0, 0, num(1)), [-33])

    def test_deps_that_just_suffice(self):
        told = plus(var(0), var(2))
        params = [0, 1, 0, 1, 0, 1]
        for deps in range(8):
            wanted = [0] if deps in (5, 7) else [-33]
            self.assertEqual(self.told([], 0, 0, params, (0, 2), deps, 3, told), wanted)

    def test_an_argument_that_is_used_and_does_not_matter(self):
        params = [0, 9]
        self.assertEqual(self.told([], 0, 0, params, (4, 4), 0, 3, let(var(0), num(4))), [0])
        self.assertEqual(self.told([], 0, 0, params, (0, 9), 0, 3, let(var(0), var(1))), [-33])
        told = [define(0, 1, params, (4, 4), 0, 1, num(4))]
        self.assertEqual(self.told(told, 0, 0, params, (4, 4), 0, 3, call(1, var(0))), [0])
        told = [define(0, 1, params, (4, 4), 1, 1, num(4))]
        self.assertEqual(self.told(told, 0, 0, params, (4, 4), 0, 3, call(1, var(0))), [-33])

    def test_no_params(self):
        self.assertEqual(self.told([], 0, 0, [], (7, 7), 0, 1, num(7)), [0])
        self.assertEqual(self.told([], 0, 0, [], (7, 7), 0, 1, var(0)), [-33])
        self.assertEqual(self.told([constant(0, 1, 7)], 0, 0, [], (7, 7), 0, 2, call(1)), [0])

    def test_sum_past_the_greatest_value(self):
        self.assertEqual(self.told([], 0, 0, [], (0, MOST), 0, 9, plus(num(MOST), num(0))), [0])
        self.assertEqual(self.told([], 0, 0, [], (0, MOST), 0, 9, plus(num(MOST), num(1))), [-33])

    def test_division_whose_bound_begins_at_0(self):
        told = through(num(9), var(0))
        self.assertEqual(self.told([], 0, 0, [0, 9], (0, MOST), 1, 9, told), [-33])
        self.assertEqual(self.told([], 0, 0, [1, 9], (1, 9), 1, 3, told), [0])

    def test_no_expression(self):
        for told in ([], [0], [12], num(1) + num(1), plus(num(1), []), [11, 0]):
            self.assertEqual(self.told([], 0, 0, [], (0, MOST), 0, 20000, told), [-33])

    def test_a_body_that_calls_itself(self):
        for cost in (0, 1, 2, 19999, 20000):
            self.assertEqual(self.told([], 0, 3, [], (0, MOST), 0, cost, call(3)), [-33])
            told = choice(num(0), call(3), num(1))
            self.assertEqual(self.told([], 0, 3, [], (0, MOST), 0, cost, told), [-33])
        told = choice(var(0), call(3, minus(var(0), num(1))), num(0))
        self.assertEqual(self.told([], 0, 3, [0, 9], (0, 9), 1, 20000, told), [-33])
        before = [constant(0, 3, 1)]
        self.assertEqual(self.told(before, 0, 3, [], (0, MOST), 0, 20000, call(3)), [-33])

    def test_two_that_would_call_each_other(self):
        before = [constant(0, 3, 1, 100), define(0, 4, [], (1, 1), 0, 200, call(3))]
        # With steps enough for itself it takes more than 4 has told of it; with fewer, more than its own.
        self.assertEqual(self.told(before, 0, 3, [], (1, 1), 0, 201, call(4)), [-17])
        self.assertEqual(self.told(before, 0, 3, [], (1, 1), 0, 20000, call(4)), [-17])
        self.assertEqual(self.told(before, 0, 3, [], (1, 1), 0, 200, call(4)), [-33])
        self.assertEqual(self.told(before, 0, 3, [], (1, 1), 0, 100, call(4)), [-33])

    def test_three_that_would_call_each_other(self):
        before = [constant(0, 3, 1, 100), define(0, 4, [], (1, 1), 0, 200, call(3)),
                  define(0, 5, [], (1, 1), 0, 300, call(4))]
        self.assertEqual(self.told(before, 0, 3, [], (1, 1), 0, 301, call(5)), [-17])
        self.assertEqual(self.told(before, 0, 3, [], (1, 1), 0, 300, call(5)), [-33])

    def test_a_body_of_200_numbers_and_one_of_201(self):
        long = [2] * 66 + num(1) * 67
        self.assertEqual(self.told([], 0, 0, [], (67, 67), 0, 133, long), [0])
        before = [constant(0, 1, 1)]
        longer = [2] * 66 + num(1) * 66 + call(1)
        self.assertEqual(len(longer), 201)
        self.assertEqual(self.told(before, 0, 0, [], (0, MOST), 0, 20000, longer), [-22])
        self.assertEqual(self.told([], 0, 0, [], (0, MOST), 0, 20000, num(1) * 150), [-22])

    def test_bodies_as_deep_as_they_may_be(self):
        before = [define(0, 1, [0, 9], (0, 9), 1, 1, var(0))]
        deep = [[2] * 66 + num(1) * 67, minus(num(9), []) * 66 + num(1), [10] * 66 + num(1) + var(0) * 66,
                let(num(1), []) * 66 + var(65), [11, 1, 1] * 66 + num(1)]
        for told in deep:
            self.assertEqual(len(told), 200)
            self.assertEqual(self.told(before, 0, 0, [], (0, 100), 0, 20000, told), [0])


class Others(Both):
    """What telling a word anew does to those who go by it."""

    def before(self):
        first = define(0, 1, [0, 9], (0, 9), 1, 10, lesser(var(0), num(9)))
        caller = define(1, 2, [2, 5], (0, 20), 1, 20, call(1, var(0)))
        return [first, caller]

    def test_less_promised_and_enough(self):
        told = plus(var(0), num(1))
        self.assertEqual(self.told(self.before(), 0, 1, [2, 5], (0, 20), 1, 18, told), [1])

    def test_less_promised_and_not_enough(self):
        told = plus(var(0), num(1))
        self.assertEqual(self.told(self.before(), 0, 1, [2, 5], (0, 21), 1, 18, told), [-17])
        self.assertEqual(self.told(self.before(), 0, 1, [2, 5], (0, 20), 1, 19, told), [-17])
        self.assertEqual(self.told(self.before(), 0, 1, [3, 5], (0, 20), 1, 18, told), [-17])
        self.assertEqual(self.told(self.before(), 0, 1, [2, 4], (0, 20), 1, 18, told), [-17])
        self.assertEqual(self.told(self.before(), 0, 1, [2, 5, 0, 1], (0, 20), 1, 18, told), [-17])
        self.assertEqual(self.told(self.before(), 0, 1, [], (0, 20), 0, 18, num(1)), [-17])

    def test_more_deps_told_and_not_enough(self):
        before = [define(0, 1, [0, 9], (0, 9), 0, 10, num(1)),
                  define(0, 2, [0, 9], (0, 9), 0, 20, call(1, var(0)))]
        self.assertEqual(self.told(before, 0, 1, [0, 9], (0, 9), 1, 10, var(0)), [-17])
        self.assertEqual(self.told(before, 0, 1, [0, 9], (0, 9), 1, 10, num(1)), [-17])
        self.assertEqual(self.told(before, 0, 1, [0, 9], (2, 2), 0, 10, num(2)), [1])

    def test_more_promised(self):
        told = var(0)
        self.assertEqual(self.told(self.before(), 0, 1, [0, MOST], (0, MOST), 1, 1, told), [-17])
        self.assertEqual(self.told(self.before(), 0, 1, [0, 20], (0, 20), 1, 1, told), [1])
        self.assertEqual(self.told(self.before(), 0, 1, [0, 20], (4, 4), 0, 1, num(4)), [1])

    def test_a_caller_is_judged_by_words_alone(self):
        # The body stays as it was: only what's told of it is less.
        self.assertEqual(self.told(self.before(), 0, 1, [0, 9], (0, 21), 1, 10, num(1)), [-17])

    def test_a_caller_s_caller_goes_by_its_word(self):
        before = self.before() + [define(1, 3, [], (0, 20), 0, 22, call(2, num(2)))]
        self.assertEqual(self.told(before, 0, 1, [2, 5], (0, 20), 1, 18, var(0)), [1])
        self.assertEqual(self.told(before, 1, 2, [2, 5], (0, 20), 1, 21, call(1, var(0))), [-17])

    def test_who_calls_by_an_earlier_version_only_is_not_asked(self):
        before = self.before() + [define(1, 2, [2, 5], (0, 20), 1, 20, num(1))]
        self.assertEqual(self.told(before, 0, 1, [], (7, 7), 0, 1, num(7)), [1])

    def test_one_of_several_callers(self):
        before = [constant(0, 0, 5, 1)]
        before += [define(0, f, [], (5, f), 0, 2, call(0)) for f in range(5, 16)]
        self.assertEqual(self.told(before, 0, 0, [], (5, 5), 0, 1, num(5)), [1])
        self.assertEqual(self.told(before, 0, 0, [], (5, 6), 0, 1, num(5)), [-17])
        lone = before[:1] + before[-1:]
        self.assertEqual(self.told(lone, 0, 0, [], (5, 15), 0, 1, num(5)), [1])
        self.assertEqual(self.told(lone, 0, 0, [], (5, 16), 0, 1, num(5)), [-17])


class Wrong(Both):
    """-22, each ground by itself."""

    def refused(self, who=0, f=0, params=(0, 9), result=(0, 9), deps=1, cost=20000, told=(1, 0)):
        return self.told([], who, f, list(params), result, deps, cost, list(told)) == [-22]

    def test_who_and_f(self):
        self.assertFalse(self.refused())
        self.assertFalse(self.refused(who=15, f=15))
        for many in (16, 17, 255, MOST):
            self.assertTrue(self.refused(who=many))
            self.assertTrue(self.refused(f=many))

    def test_params(self):
        self.assertFalse(self.refused(params=[0, 9] * 4))
        for many in range(5, 11):
            self.assertTrue(self.refused(params=[0, 9] * many))
        self.assertTrue(self.refused(params=[10, 9]))
        self.assertFalse(self.refused(params=[9, 9]))
        self.assertTrue(self.refused(params=[MOST, 0]))
        for k in range(4):
            params = [0, 9] * 4
            params[2 * k] = 10
            self.assertTrue(self.refused(params=params))
        self.assertFalse(self.refused(params=[MOST, MOST]))

    def test_result(self):
        self.assertFalse(self.refused(result=(9, 9)))
        self.assertTrue(self.refused(result=(10, 9)))
        self.assertTrue(self.refused(result=(MOST, 0)))
        self.assertFalse(self.refused(result=(0, MOST)))
        self.assertFalse(self.refused(result=(MOST, MOST)))

    def test_bounds_that_pass_all_values(self):
        self.assertTrue(self.refused(params=[0, MOST + 1]))
        self.assertTrue(self.refused(result=(0, MOST + 1)))

    def test_deps(self):
        for many in range(5):
            params = [0, 9] * many
            self.assertFalse(self.refused(params=params, deps=2 ** many - 1))
            self.assertTrue(self.refused(params=params, deps=2 ** many))
            self.assertTrue(self.refused(params=params, deps=2 ** 31))
            self.assertTrue(self.refused(params=params, deps=MOST))

    def test_cost(self):
        self.assertFalse(self.refused(cost=0))
        self.assertFalse(self.refused(cost=20000))
        self.assertTrue(self.refused(cost=20001))
        self.assertTrue(self.refused(cost=MOST))

    def test_body(self):
        self.assertFalse(self.refused(told=[MOST] * 200))
        self.assertTrue(self.refused(told=[MOST] * 201))
        self.assertTrue(self.refused(told=[2] * 300))

    def test_all_greatest(self):
        self.assertTrue(self.refused(MOST, MOST, [MOST] * 20, (MOST, MOST), MOST, MOST, [MOST] * 300))


class Order(Both):
    """Where several refusals are due the one that's named first is answered."""

    def log_of(self, many):
        return [constant(9, 9), drop(9, 9)] * (many // 2)

    def test_wrong_ahead_of_not_yours(self):
        self.assertEqual(self.told([constant(1, 0)], 0, 0, [], (0, 9), 0, 20001, num(0)), [-22])
        self.assertEqual(self.told([constant(1, 0)], 16, 0, [], (0, 9), 0, 1, num(0)), [-22])

    def test_not_yours_ahead_of_full(self):
        before = [constant(1, 0) for k in range(8)]
        self.assertEqual(self.told(before, 0, 0, [], (0, 9), 0, 1, num(0)), [-1])
        self.assertEqual(self.told(before, 1, 0, [], (0, 9), 0, 1, num(0)), [-28])
        full = self.log_of(126) + [constant(1, 0), constant(1, 1)]
        self.assertEqual(self.told(full, 0, 0, [], (0, 9), 0, 1, num(0)), [-1])

    def test_not_yours_ahead_of_not_kept(self):
        self.assertEqual(self.told([constant(1, 0)], 0, 0, [], (0, 9), 0, 1, []), [-1])

    def test_full_ahead_of_not_kept_and_breaks(self):
        before = [constant(1, 0) for k in range(8)]
        self.assertEqual(self.told(before, 1, 0, [], (0, 9), 0, 1, []), [-28])
        self.assertEqual(self.told(self.log_of(128), 1, 0, [], (0, 9), 0, 1, []), [-28])
        before.append(define(1, 1, [], (0, 0), 0, 2, call(0)))
        self.assertEqual(self.told(before, 1, 0, [], (0, 9), 0, 1, num(0)), [-28])

    def test_wrong_ahead_of_full_and_not_kept(self):
        self.assertEqual(self.told(self.log_of(128), 0, 16, [], (0, 9), 0, 1, []), [-22])
        self.assertEqual(self.told([], 0, 0, [], (9, 0), 0, 1, []), [-22])

    def test_not_kept_ahead_of_breaks(self):
        before = [constant(1, 0), define(1, 1, [], (0, 0), 0, 2, call(0))]
        self.assertEqual(self.told(before, 1, 0, [], (1, 2), 0, 1, num(0)), [-33])
        self.assertEqual(self.told(before, 1, 0, [], (1, 2), 0, 1, num(1)), [-17])


class Bookkeeping(Both):
    def test_it_is_who_s_that_told_it_first(self):
        before = [constant(3, 0)]
        self.assertEqual(self.told(before, 3, 0, [], (1, 1), 0, 1, num(1)), [1])
        for who in (0, 2, 4, 15):
            self.assertEqual(self.told(before, who, 0, [], (1, 1), 0, 1, num(1)), [-1])

    def test_8_versions(self):
        before = [constant(3, 0, v) for v in range(7)]
        self.assertEqual(self.told(before, 3, 0, [], (1, 1), 0, 1, num(1)), [7])
        before.append(constant(3, 0, 9))
        self.assertEqual(self.told(before, 3, 0, [], (1, 1), 0, 1, num(1)), [-28])
        self.assertEqual(self.told(before, 3, 1, [], (1, 1), 0, 1, num(1)), [0])
        before.append(back(3, 0))
        self.assertEqual(self.told(before, 3, 0, [], (1, 1), 0, 1, num(1)), [7])

    def test_a_full_log(self):
        before = [constant(1, 1), drop(1, 1)] * 63 + [constant(1, 1)]
        self.assertEqual(len(before), 127)
        self.assertEqual(self.told(before, 1, 2, [], (1, 1), 0, 1, num(1)), [0])
        before.append(constant(1, 2))
        self.assertEqual(self.told(before, 1, 2, [], (1, 1), 0, 1, num(1)), [-28])
        self.assertEqual(self.told(before, 1, 3, [], (1, 1), 0, 1, num(1)), [-28])
        before.append(begin())
        self.assertEqual(self.told(before, 1, 3, [], (1, 1), 0, 1, num(1)), [0])

    def test_what_makes_no_entry(self):
        asked = []
        for k in range(30):
            asked += [would(0, 1, [], (1, 1), 0, 1, num(1)), constant(16, 0), give(0, 0, 0), infer([], num(1)),
                      [7, 0], back(0, 0)]
        given = ask(constant(0, 0), *asked, constant(0, 5))
        self.assertEqual(given[-1], [0])

    def test_back_and_drop_fill_the_log_too(self):
        asked = [constant(1, 1)] + [constant(1, 1), back(1, 1)] * 63
        self.assertEqual(last(*asked, constant(1, 2)), [0])
        self.assertEqual(last(*asked, constant(1, 2), constant(1, 3)), [-28])
        self.assertEqual(last(*asked, drop(1, 1)), [0])
        self.assertEqual(last(*asked, drop(1, 1), constant(1, 3)), [-28])

    def test_the_last_one_told_is_in_force(self):
        given = ask(constant(0, 0, 4), define(0, 0, [3, 5], (3, 5), 1, 7, var(0)), word(0), body(0))
        self.assertEqual(given, [[0], [1], [1, 3, 5, 3, 5, 1, 7], [2, 1, 0]])

    def test_would_changes_nothing(self):
        given = ask(would(0, 0, [], (1, 1), 0, 1, num(1)), word(0), constant(1, 0), would(1, 0, [], (2, 2), 0, 1, num(2)),
                    word(0), constant(1, 0, 3))
        self.assertEqual(given, [[0], [-2], [0], [1], [0, 0, 0, 0, 1], [1]])

    def test_a_refusal_changes_nothing(self):
        before = [constant(1, 0), define(1, 1, [], (0, 0), 0, 2, call(0))]
        refused = [constant(2, 0), constant(16, 0), define(1, 0, [], (1, 1), 0, 1, num(0)), constant(1, 0, 3)]
        given = ask(*before, *refused, word(0), body(0), word(1), constant(1, 0))
        self.assertEqual(given[2:6], [[-1], [-22], [-33], [-17]])
        self.assertEqual(given[6:], [[0, 0, 0, 0, 1], [2, 0, 0], [0, 0, 0, 0, 2], [1]])


class Begin(unittest.TestCase):
    def test_begin_answers_0_and_may_come_again(self):
        self.assertEqual(ask(begin(), begin()), [[0], [0]])

    def test_begin_leaves_no_programs(self):
        given = ask(constant(1, 0), constant(1, 0), begin(), word(0), constant(2, 0), back(2, 0))
        self.assertEqual(given, [[0], [1], [0], [-2], [0], [-6]])


if __name__ == "__main__":
    unittest.main()
