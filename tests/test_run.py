"""Promise 8 (run), and how a cell came by it."""

import unittest

from helper import (
    EVERYBODY, MOST, ask, back, call, clear, constant, define, drop, give, how, last, lesser, let, many, minus, narrow, num,
    plus, put, read, run, seen, times, var,
)


def taking(deps, body, many=2):
    """Program 7 of 0's over so many arguments from 0 to 9."""
    return define(0, 7, [0, 9] * many, (0, 99), deps, 99, body)


class Results(unittest.TestCase):
    def test_what_f_gives(self):
        asked = [taking(3, plus(times(var(0), num(10)), var(1))), put(3, 5, (0, 9), 4), put(3, 6, (2, 7), 2)]
        given = ask(*asked, run(1, 7, 8, 5, 6), read(1, 8), read(15, 8), seen(8), how(8))
        self.assertEqual(given[3:], [[0], [0, 42], [0, 42], [0, EVERYBODY, 0, 99], [2, 1, 7, 0, 5, 6]])

    def test_the_order_of_cells(self):
        asked = [taking(3, plus(times(var(0), num(10)), var(1))), put(3, 5, (0, 9), 4), put(3, 6, (2, 7), 2)]
        self.assertEqual(ask(*asked, run(1, 7, 8, 6, 5), read(1, 8), how(8))[3:], [[0], [0, 24], [2, 1, 7, 0, 6, 5]])

    def test_no_params(self):
        given = ask(define(0, 7, [], (3, 12), 0, 1, num(8)), run(2, 7, 5), read(9, 5), seen(5), how(5))
        self.assertEqual(given[1:], [[0], [0, 8], [0, EVERYBODY, 3, 12], [2, 2, 7, 0]])

    def test_four_params(self):
        body = plus(times(plus(times(plus(times(var(0), num(10)), var(1)), num(10)), var(2)), num(10)), var(3))
        asked = [define(0, 7, [0, 9] * 4, (0, 9999), 15, 99, body)] + [put(0, k, (0, 9), k + 1) for k in range(4)]
        given = ask(*asked, run(2, 7, 31, 3, 1, 0, 2), read(0, 31), how(31))
        self.assertEqual(given[5:], [[0], [0, 4213], [2, 2, 7, 0, 3, 1, 0, 2]])

    def test_the_bound_is_the_word_s(self):
        asked = [define(0, 7, [0, 9], (2, 77), 0, 9, num(5)), run(2, 7, 5, 6), seen(5)]
        self.assertEqual(last(*asked), [0, EVERYBODY, 2, 77])

    def test_cells_at_the_beginning_may_be_run_over(self):
        asked = [taking(1, plus(var(0), num(3)), 1), run(2, 7, 5, 6), read(2, 5)]
        self.assertEqual(last(*asked), [0, 3])

    def test_it_does_not_change_the_cells_it_is_over(self):
        asked = [taking(3, plus(var(0), var(1))), put(3, 5, (0, 9), 4, 14), put(4, 6, (2, 7), 2, 30), run(3, 7, 8, 5, 6)]
        given = ask(*asked, seen(5), how(5), read(3, 5), seen(6), how(6), read(3, 6))
        self.assertEqual(given[4:], [[0, 14, 0, 9], [1, 3], [0, 4], [0, 30, 2, 7], [1, 4], [0, 2]])

    def test_what_is_put_later_does_not_change_the_result(self):
        asked = [taking(1, var(0), 1), put(3, 5, (0, 9), 4, 8), run(3, 7, 8, 5), put(3, 5, (0, 9), 6), read(3, 8), seen(8)]
        self.assertEqual(ask(*asked)[4:], [[0, 4], [0, 8, 0, 99]])

    def test_anybody_may_run_anybody_s(self):
        for who in range(16):
            self.assertEqual(ask(constant(3, 7, 8), run(who, 7, 5), how(5))[1:], [[0], [2, who, 7, 0]])

    def test_the_ends_of_programs_and_cells(self):
        asked = [define(0, f, [0, 9], (0, 9), 1, 1, var(0)) for f in (0, 15)] + [put(0, 0, (1, 1), 1), put(0, 31, (2, 2), 2)]
        given = ask(*asked, run(15, 15, 31, 0), read(0, 31), how(31), run(0, 0, 0, 31), read(0, 0), how(0))
        self.assertEqual(given[4:], [[0], [0, 1], [2, 15, 15, 0, 0], [0], [0, 1], [2, 0, 0, 0, 31]])

    def test_over_a_result(self):
        asked = [define(0, 1, [0, 9], (1, 10), 1, 3, plus(var(0), num(1))),
                 define(0, 2, [1, 10], (0, 9), 1, 3, minus(var(0), num(1))),
                 put(3, 5, (0, 9), 9, 0b1010)]
        given = ask(*asked, run(3, 1, 6, 5), run(3, 2, 7, 6), read(1, 7), read(2, 7), seen(6), seen(7), how(7))
        self.assertEqual(given[3:], [[0], [0], [0, 9], [-13], [0, 10, 1, 10], [0, 10, 0, 9], [2, 3, 2, 0, 6]])

    def test_through_calls(self):
        asked = [define(0, 1, [0, 9], (0, 81), 1, 3, times(var(0), var(0))),
                 define(0, 2, [0, 9, 0, 9], (0, 162), 3, 11, plus(call(1, var(0)), call(1, var(1)))),
                 put(0, 5, (0, 9), 3), put(0, 6, (0, 9), 4), run(0, 2, 7, 5, 6), read(0, 7)]
        self.assertEqual(last(*asked), [0, 25])

    def test_it_makes_no_entry(self):
        self.assertEqual(last(constant(0, 7), run(0, 7, 5), many()), [1, 1])


class IntoItself(unittest.TestCase):
    def one_more(self, deps=1):
        return define(0, 7, [0, 8], (0, 8), deps, 5, lesser(plus(var(0), num(1)), num(8)))

    def test_a_cell_run_into_itself(self):
        given = ask(self.one_more(), put(3, 5, (0, 8), 4, 0b1001), run(0, 7, 5, 5), read(3, 5), seen(5), how(5),
                    run(3, 7, 5, 5), read(3, 5), how(5), read(1, 5))
        self.assertEqual(given[2:], [[0], [0, 5], [0, 0b1001, 0, 8], [2, 0, 7, 0, 5], [0], [0, 6], [2, 3, 7, 0, 5], [-13]])

    def test_up_to_the_end_of_its_bound(self):
        asked = [self.one_more(), put(3, 5, (0, 8), 4)] + [run(3, 7, 5, 5)] * 20
        self.assertEqual(last(*asked, read(3, 5)), [0, 8])

    def test_a_bound_that_has_grown_past_the_argument_s(self):
        told = define(0, 7, [0, 8], (1, 9), 1, 5, plus(var(0), num(1)))
        given = ask(told, put(3, 5, (0, 8), 4), run(3, 7, 5, 5), run(3, 7, 5, 5), read(3, 5), seen(5))
        self.assertEqual(given[2:], [[0], [-71], [0, 5], [0, EVERYBODY, 1, 9]])

    def test_one_of_several(self):
        for to in (5, 6):
            given = ask(taking(3, plus(times(var(0), num(10)), var(1))), put(3, 5, (0, 9), 4, 0b1110), put(3, 6, (0, 9), 2, 0b0111),
                        run(1, 7, to, 5, 6), read(2, to), seen(to), how(to))
            self.assertEqual(given[3:], [[0], [0, 42], [0, 0b0110, 0, 99], [2, 1, 7, 0, 5, 6]])

    def test_what_it_was_for_before_does_not_count(self):
        given = ask(constant(0, 7, 8), put(3, 5, (4, 9), 7, 0), run(1, 7, 5), seen(5), read(9, 5))
        self.assertEqual(given[2:], [[0], [0, EVERYBODY, 8, 8], [0, 8]])

    def test_what_does_not_matter_does_not_count_either(self):
        told = define(0, 7, [0, 9], (5, 5), 0, 3, let(var(0), num(5)))
        given = ask(told, put(3, 5, (0, 9), 7, 8), run(3, 7, 5, 5), seen(5), read(9, 5))
        self.assertEqual(given[2:], [[0], [0, EVERYBODY, 5, 5], [0, 5]])


class WhoMaySee(unittest.TestCase):
    def masks(self, deps, body, one, other, who=1):
        """Who may see what comes out of two cells with these masks."""
        asked = [taking(deps, body), put(3, 5, (0, 9), 4, one), put(3, 6, (0, 9), 2, other), run(who, 7, 8, 5, 6), seen(8)]
        given = ask(*asked)
        self.assertEqual(given[:4], [[0]] * 4)
        return given[4][1]

    def test_no_deps(self):
        self.assertEqual(self.masks(0, num(3), 0b0010, 0b0110), EVERYBODY)

    def test_one_of_the_deps(self):
        self.assertEqual(self.masks(1, var(0), 0b1010, 0b0110), 0b1010)
        self.assertEqual(self.masks(2, var(1), 0b1010, 0b0110), 0b0110)

    def test_all_deps(self):
        self.assertEqual(self.masks(3, plus(var(0), var(1)), 0b1010, 0b0110), 0b0010)
        self.assertEqual(self.masks(3, plus(var(0), var(1)), EVERYBODY, EVERYBODY), EVERYBODY)
        self.assertEqual(self.masks(3, plus(var(0), var(1)), EVERYBODY, 0b0110), 0b0110)

    def test_the_deps_are_the_word_s_and_not_the_body_s(self):
        self.assertEqual(self.masks(3, num(3), 0b1010, 0b0110), 0b0010)
        self.assertEqual(self.masks(3, var(0), 0b1010, 0b0110), 0b0010)

    def test_an_argument_that_is_used_and_does_not_matter(self):
        self.assertEqual(self.masks(2, let(var(0), var(1)), 0b1010, 0b0110), 0b0110)

    def test_person_15(self):
        self.assertEqual(self.masks(3, plus(var(0), var(1)), 32768 + 2, 32768 + 1, 15), 32768)

    def test_a_cell_twice_among_cells(self):
        for deps, body, value in ((3, minus(plus(var(0), var(0)), var(1)), 4), (1, var(0), 4), (2, var(1), 4)):
            given = ask(taking(deps, body), put(3, 5, (0, 9), 4, 0b1010), run(1, 7, 8, 5, 5), read(1, 8), seen(8), how(8))
            self.assertEqual(given[2:], [[0], [0, value], [0, 0b1010, 0, 99], [2, 1, 7, 0, 5, 5]])
        given = ask(taking(0, num(4)), put(3, 5, (0, 9), 4, 0b1010), run(1, 7, 8, 5, 5), seen(8))
        self.assertEqual(given[2:], [[0], [0, EVERYBODY, 0, 99]])

    def test_the_last_of_four(self):
        asked = [put(3, k, (0, 9), 1, 0b11111 - (2 << k)) for k in range(4)]
        for deps in range(16):
            wanted = EVERYBODY
            for k in range(4):
                if deps >> k & 1:
                    wanted &= 0b11111 - (2 << k)
            given = ask(*asked, taking(deps, num(3), 4), run(0, 7, 8, 0, 1, 2, 3), seen(8))
            self.assertEqual(given[5:], [[0], [0, wanted, 0, 99]])

    def test_a_result_for_nobody(self):
        asked = [taking(1, var(0), 1), put(3, 5, (0, 9), 4, 0b1010), run(1, 7, 8, 5), narrow(1, 8, 0b0100)]
        given = ask(*asked, seen(8), *[read(who, 8) for who in range(16)], *[run(who, 7, 9, 8) for who in range(16)], how(9))
        self.assertEqual(given[3:], [[0], [0, 0, 0, 99]] + [[-13]] * 32 + [[0]])

    def test_a_narrowed_cell_narrows_what_is_run_over_it(self):
        asked = [taking(1, var(0), 1), put(3, 5, (0, 9), 4), narrow(3, 5, 0b1010), run(1, 7, 8, 5), seen(8)]
        self.assertEqual(last(*asked), [0, 0b1010, 0, 99])

    def test_narrowed_later_it_does_not(self):
        asked = [taking(1, var(0), 1), put(3, 5, (0, 9), 4), run(1, 7, 8, 5), narrow(3, 5, 0b1010), seen(8)]
        self.assertEqual(last(*asked), [0, EVERYBODY, 0, 99])


class How(unittest.TestCase):
    def told(self, v):
        return define(0, 7, [], (0, 9), 0, 9, num(v))

    def test_the_version_that_was_in_force(self):
        asked = [self.told(0), run(1, 7, 10), self.told(1), run(1, 7, 11), self.told(2), run(1, 7, 12), back(0, 7),
                 run(1, 7, 13), back(0, 7), run(1, 7, 14)]
        given = ask(*asked, *[how(k) for k in range(10, 15)], *[read(0, k) for k in range(10, 15)])
        self.assertEqual(given[10:15], [[2, 1, 7, number] for number in (0, 1, 2, 1, 0)])
        self.assertEqual(given[15:], [[0, v] for v in (0, 1, 2, 1, 0)])

    def test_eight_versions(self):
        asked = [self.told(v) for v in range(8)]
        self.assertEqual(ask(*asked, run(1, 7, 10), how(10), read(0, 10))[8:], [[0], [2, 1, 7, 7], [0, 7]])

    def test_it_stays_when_the_program_is_dropped_or_given(self):
        asked = [self.told(4), self.told(5), run(1, 7, 10), give(0, 7, 2), drop(2, 7), how(10), read(0, 10), seen(10)]
        self.assertEqual(ask(*asked)[5:], [[2, 1, 7, 1], [0, 5], [0, EVERYBODY, 0, 9]])

    def test_told_again_after_a_drop(self):
        asked = [self.told(4), self.told(5), drop(0, 7), self.told(6), run(1, 7, 10), how(10)]
        self.assertEqual(last(*asked), [2, 1, 7, 0])

    def test_after_put_and_run_and_clear(self):
        given = ask(self.told(4), how(5), put(3, 5, (0, 9), 4), how(5), run(1, 7, 5), how(5), put(2, 5, (0, 9), 4), how(5),
                    run(4, 7, 5), clear(4, 5), how(5))
        self.assertEqual([given[k] for k in (1, 3, 5, 7, 10)], [[0], [1, 3], [2, 1, 7, 0], [1, 2], [0]])

    def test_a_word_told_anew(self):
        asked = [taking(1, var(0)), put(3, 5, (0, 9), 4, 0b1010), put(3, 6, (0, 9), 2, 0b0110), run(1, 7, 8, 5, 6),
                 define(0, 7, [0, 9] * 2, (0, 50), 2, 99, var(1)), run(1, 7, 9, 5, 6)]
        given = ask(*asked, seen(8), how(8), read(3, 8), seen(9), how(9), read(2, 9))
        self.assertEqual(given[6:], [[0, 0b1010, 0, 99], [2, 1, 7, 0, 5, 6], [0, 4],
                                     [0, 0b0110, 0, 50], [2, 1, 7, 1, 5, 6], [0, 2]])


class Bounds(unittest.TestCase):
    def over(self, bound, v, params):
        asked = [define(0, 7, params, (0, MOST), 1, 9, var(0)), put(3, 5, bound, v), run(1, 7, 8, 5)]
        return last(*asked)

    def test_a_bound_that_just_suffices(self):
        for bound, answer in (((4, 8), 0), ((5, 8), 0), ((4, 7), 0), ((6, 6), 0), ((3, 8), -71), ((4, 9), -71), ((3, 9), -71),
                              ((0, 6), -71), ((6, MOST), -71)):
            self.assertEqual(self.over(bound, 6, [4, 8]), [answer])

    def test_the_value_within_is_not_enough(self):
        self.assertEqual(self.over((0, 9), 0, [0, 8]), [-71])

    def test_beside_it(self):
        self.assertEqual(self.over((0, 3), 3, [4, 8]), [-71])
        self.assertEqual(self.over((9, 12), 9, [4, 8]), [-71])

    def test_the_whole_bound(self):
        self.assertEqual(self.over((0, MOST), MOST, [0, MOST]), [0])
        self.assertEqual(self.over((0, MOST), 5, [0, MOST - 1]), [-71])
        self.assertEqual(self.over((0, MOST), 5, [1, MOST]), [-71])

    def test_each_argument_s_bound(self):
        params = [1, 2, 3, 4, 5, 6, 7, 8]
        told = define(0, 7, params, (0, 0), 0, 9, num(0))
        puts = [put(3, k, (params[2 * k], params[2 * k + 1]), params[2 * k]) for k in range(4)]
        self.assertEqual(last(told, *puts, run(1, 7, 8, 0, 1, 2, 3)), [0])
        for k in range(4):
            for less, more in ((1, 0), (0, 1)):
                one = put(3, k, (params[2 * k] - less, params[2 * k + 1] + more), params[2 * k])
                self.assertEqual(last(told, *puts, one, run(1, 7, 8, 0, 1, 2, 3)), [-71])

    def test_an_argument_that_does_not_matter_counts_too(self):
        asked = [define(0, 7, [0, 9], (1, 1), 0, 9, num(1)), put(3, 5, (0, 10), 3), run(1, 7, 8, 5)]
        self.assertEqual(last(*asked), [-71])

    def test_cells_at_the_beginning_are_within_0_to_0(self):
        for params, answer in (([0, 0], 0), ([0, 5], 0), ([1, 5], -71)):
            self.assertEqual(last(define(0, 7, params, (0, 9), 1, 9, var(0)), run(1, 7, 8, 5)), [answer])


class Refusals(unittest.TestCase):
    def setUp(self):
        # 5 fits, 6 is out of 1's sight, 10 is too wide.
        self.before = [taking(3, plus(var(0), var(1))), put(3, 5, (0, 9), 4), put(3, 6, (0, 9), 2, 8), put(3, 10, (0, 10), 2)]

    def answer(self, asked):
        return last(*self.before, asked)

    def test_it_is_taken(self):
        self.assertEqual(self.answer(run(1, 7, 8, 5, 5)), [0])

    def test_too_great(self):
        for who, to, cells in ((16, 8, (5, 5)), (MOST, 8, (5, 5)), (1, 32, (5, 5)), (1, MOST, (5, 5)), (1, 8, (32, 5)),
                               (1, 8, (5, 32)), (1, 8, (5, MOST))):
            self.assertEqual(self.answer(run(who, 7, to, *cells)), [-22])

    def test_not_there(self):
        for f in (0, 6, 8, 16, MOST):
            self.assertEqual(self.answer(run(1, f, 8, 5, 5)), [-2])
        self.assertEqual(last(*self.before, drop(0, 7), run(1, 7, 8, 5, 5)), [-2])

    def test_how_many_cells(self):
        for many in range(11):
            self.assertEqual(self.answer(run(1, 7, 8, *[5] * many)), [0] if many == 2 else [-22])

    def test_no_cells_for_no_params(self):
        self.assertEqual(last(constant(0, 7), run(1, 7, 8)), [0])
        self.assertEqual(last(constant(0, 7), run(1, 7, 8, 5)), [-22])

    def test_who_may_not_see_one(self):
        for cells in ((6, 5), (5, 6), (6, 6)):
            self.assertEqual(self.answer(run(1, 7, 8, *cells)), [-13])
            self.assertEqual(self.answer(run(3, 7, 8, *cells)), [0])

    def test_one_that_does_not_matter_must_be_seen_too(self):
        self.assertEqual(last(*self.before, taking(1, var(0)), run(1, 7, 8, 5, 6)), [-13])
        self.assertEqual(last(*self.before, taking(0, num(3)), run(1, 7, 8, 5, 6)), [-13])

    def test_into_one_that_who_may_not_see(self):
        self.assertEqual(ask(*self.before, run(1, 7, 6, 5, 5), read(1, 6))[4:], [[0], [0, 8]])

    def test_not_within(self):
        for cells in ((10, 5), (5, 10), (10, 10)):
            self.assertEqual(self.answer(run(1, 7, 8, *cells)), [-71])

    def test_the_one_that_is_named_first(self):
        for asked, answer in (
                (run(16, 8, 8, 5, 5), -22), (run(1, 8, 32, 5, 5), -22), (run(1, 8, 8, 5, 32), -22), (run(1, 16, 8, 32), -22),
                (run(1, 8, 8), -2), (run(1, 8, 8, 6), -2), (run(1, 8, 8, 10, 6, 5), -2),
                (run(1, 7, 8, 6), -22), (run(1, 7, 8, 10), -22), (run(1, 7, 8, 6, 10, 6), -22),
                (run(1, 7, 8, 10, 6), -13), (run(1, 7, 8, 6, 10), -13),
                (run(16, 7, 8, 6, 10), -22), (run(1, 7, 8, 6, 32), -22), (run(1, 7, 32, 6, 10), -22)):
            self.assertEqual(self.answer(asked), [answer], asked)

    def test_one_that_is_both_hidden_and_too_wide(self):
        self.assertEqual(last(*self.before, put(3, 11, (0, 10), 2, 8), run(1, 7, 8, 11, 5)), [-13])
        self.assertEqual(last(*self.before, put(3, 11, (0, 10), 2, 8), run(3, 7, 8, 11, 5)), [-71])


if __name__ == "__main__":
    unittest.main()
