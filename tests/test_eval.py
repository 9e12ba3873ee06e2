"""Promise 6 (eval), with what each expression gives, and its steps."""

import sys
import unittest

from wordhold.programs import answers

from helper import (
    MOST, ask, back, begin, below, call, choice, constant, define, drop, evaluate, greater, last, lesser, let, minus, num,
    plus, state, through, times, told_apart, var, wide,
)


class Expressions(unittest.TestCase):
    def gives(self, params, args, body, value, steps):
        self.assertEqual(last(wide(7, params, body), evaluate(7, *args)), [0, value, steps], (args, body))

    def test_a_number(self):
        for v in (0, 1, 9, MOST):
            self.gives([], [], num(v), v, 1)

    def test_a_variable(self):
        params = [0, 10, 10, 20, 20, 30, 30, MOST]
        for k in range(4):
            self.gives(params, [5, 15, 25, 35], var(k), [5, 15, 25, 35][k], 1)

    def pairs(self, make, params, wanted):
        for a, b, value in wanted:
            self.gives(params, [a, b], make(var(0), var(1)), value, 3)

    def test_plus(self):
        self.pairs(plus, [0, MOST - 9, 0, 9], [(0, 0, 0), (3, 4, 7), (4, 3, 7), (MOST - 9, 9, MOST)])

    def test_minus(self):
        whole = [0, MOST, 0, MOST]
        self.pairs(minus, whole, [(7, 3, 4), (3, 7, 0), (5, 5, 0), (5, 4, 1), (4, 5, 0), (MOST, 0, MOST), (0, MOST, 0)])

    def test_times(self):
        self.pairs(times, [0, 65537, 0, 65535], [(3, 4, 12), (0, 9, 0), (9, 0, 0), (1, 7, 7), (65537, 65535, MOST)])

    def test_through(self):
        wanted = [(7, 2, 3), (8, 2, 4), (2, 7, 0), (0, 3, 0), (5, 5, 1), (MOST, 1, MOST), (MOST, MOST, 1), (MOST, 2, 2147483647)]
        self.pairs(through, [0, MOST, 1, MOST], wanted)

    def test_lesser(self):
        self.pairs(lesser, [0, MOST, 0, MOST], [(3, 4, 3), (4, 3, 3), (5, 5, 5), (0, MOST, 0), (MOST, 0, 0)])

    def test_greater(self):
        self.pairs(greater, [0, MOST, 0, MOST], [(3, 4, 4), (4, 3, 4), (5, 5, 5), (0, MOST, MOST), (MOST, 0, MOST)])

    def test_below(self):
        wanted = [(3, 4, 1), (4, 3, 0), (5, 5, 0), (0, 0, 0), (MOST, MOST, 0), (MOST - 1, MOST, 1), (MOST, MOST - 1, 0)]
        self.pairs(below, [0, MOST, 0, MOST], wanted)

    def test_steps_of_parts_are_taken_together(self):
        for make in (plus, minus, lesser, greater, below):
            for a, b, steps in ((plus(num(1), num(1)), num(2), 5), (num(2), plus(num(1), num(1)), 5),
                                (plus(num(1), num(1)), plus(num(1), num(1)), 7)):
                self.assertEqual(last(wide(7, [], make(a, b)), evaluate(7))[2], steps)

    def test_the_order_of_parts(self):
        self.gives([], [], minus(minus(num(9), num(5)), num(3)), 1, 5)
        self.gives([], [], minus(num(9), minus(num(5), num(3))), 7, 5)


class Choices(unittest.TestCase):
    def steps_and_value(self, body, params, *args):
        return last(wide(7, params, body), evaluate(7, *args))

    def test_0_takes_the_last_and_all_else_the_first(self):
        body = choice(var(0), num(11), num(22))
        self.assertEqual(self.steps_and_value(body, [0, MOST], 0), [0, 22, 3])
        for c in (1, 2, MOST):
            self.assertEqual(self.steps_and_value(body, [0, MOST], c), [0, 11, 3])

    def test_only_the_one_that_is_taken_is_run(self):
        long = plus(num(1), plus(num(1), num(1)))
        first = choice(var(0), long, num(4))
        self.assertEqual(self.steps_and_value(first, [0, 1], 1), [0, 3, 7])
        self.assertEqual(self.steps_and_value(first, [0, 1], 0), [0, 4, 3])
        second = choice(var(0), num(4), long)
        self.assertEqual(self.steps_and_value(second, [0, 1], 1), [0, 4, 3])
        self.assertEqual(self.steps_and_value(second, [0, 1], 0), [0, 3, 7])

    def test_the_condition_is_run(self):
        body = choice(below(var(0), plus(num(2), num(3))), num(1), num(2))
        self.assertEqual(self.steps_and_value(body, [0, 9], 4), [0, 1, 7])
        self.assertEqual(self.steps_and_value(body, [0, 9], 5), [0, 2, 7])

    def test_a_part_that_is_0(self):
        for c in (0, 1):
            body = choice(var(0), num(0), num(0))
            self.assertEqual(self.steps_and_value(body, [0, 1], c), [0, 0, 3])
        body = plus(num(5), choice(var(0), num(0), num(8)))
        self.assertEqual(self.steps_and_value(body, [0, 1], 1), [0, 5, 5])
        self.assertEqual(self.steps_and_value(body, [0, 1], 0), [0, 13, 5])

    def test_choices_in_each_place_of_a_choice(self):
        def wanted(c, d):
            return [0, 10 if d else 20, 5] if c else [0, 30, 3]
        for c in (0, 1):
            for d in (0, 1):
                inner = choice(var(1), num(10), num(20))
                self.assertEqual(self.steps_and_value(choice(var(0), inner, num(30)), [0, 1, 0, 1], c, d), wanted(c, d))
                other = choice(var(0), num(30), inner)
                self.assertEqual(self.steps_and_value(other, [0, 1, 0, 1], 1 - c, d), wanted(c, d))
                both = choice(var(0), inner, choice(var(1), plus(num(1), num(2)), num(4)))
                value, steps = (10 if d else 20, 5) if c else (3, 7) if d else (4, 5)
                self.assertEqual(self.steps_and_value(both, [0, 1, 0, 1], c, d), [0, value, steps])
                first = choice(choice(var(0), var(1), num(1)), num(10), num(20))
                self.assertEqual(self.steps_and_value(first, [0, 1, 0, 1], c, d), [0, 20 if c and not d else 10, 5])

    def test_choices_behind_one_another(self):
        one = choice(var(0), num(1), plus(num(1), num(1)))
        two = choice(var(1), plus(num(4), num(4)), num(4))
        for c in (0, 1):
            for d in (0, 1):
                value = (1 if c else 2) + (8 if d else 4)
                steps = 1 + (3 if c else 5) + (5 if d else 3)
                self.assertEqual(self.steps_and_value(plus(one, two), [0, 1, 0, 1], c, d), [0, value, steps])

    def test_a_let_within_the_one_that_is_taken(self):
        body = choice(var(0), let(num(3), plus(var(1), var(1))), let(num(5), let(num(6), var(1))))
        self.assertEqual(self.steps_and_value(body, [0, 1], 1), [0, 6, 7])
        self.assertEqual(self.steps_and_value(body, [0, 1], 0), [0, 5, 7])

    def test_the_other_one_is_not_run_over_many_programs(self):
        # If both were run, the last one would be 2^15 runs of the first.
        asked = [define(0, 0, [0, 1], (0, 1), 1, 1, var(0))]
        for f in range(1, 16):
            body = choice(var(0), call(f - 1, var(0)), call(f - 1, num(0)))
            asked.append(define(0, f, [0, 1], (0, 1), 1, 1 + 4 * f, body))
        self.assertEqual(ask(*asked, evaluate(15, 0), evaluate(15, 1))[-2:], [[0, 0, 61], [0, 1, 61]])


class Lets(unittest.TestCase):
    def gives(self, body, params, args, value, steps):
        self.assertEqual(last(wide(7, params, body), evaluate(7, *args)), [0, value, steps], body)

    def test_the_next_number(self):
        self.gives(let(num(5), var(0)), [], [], 5, 3)
        self.gives(let(num(5), var(1)), [0, 9], [3], 5, 3)
        self.gives(let(num(5), var(0)), [0, 9], [3], 3, 3)
        self.gives(let(num(5), minus(var(4), var(3))), [0, 9] * 4, [1, 2, 3, 4], 1, 5)

    def test_lets_within_lets(self):
        self.gives(let(num(5), let(num(3), minus(var(0), var(1)))), [], [], 2, 7)
        self.gives(let(let(num(5), plus(var(0), var(0))), plus(var(0), num(1))), [], [], 11, 9)

    def test_the_number_is_free_again_behind_it(self):
        body = plus(let(num(5), var(0)), let(num(7), var(0)))
        self.gives(body, [], [], 12, 7)
        self.gives(let(num(100), plus(let(num(5), var(1)), let(num(7), plus(var(0), var(1))))), [], [], 112, 11)

    def test_it_is_run_once_however_often_it_is_used(self):
        self.gives(let(plus(num(1), num(2)), plus(var(0), plus(var(0), var(0)))), [], [], 9, 9)

    def test_it_is_run_even_if_it_is_not_used(self):
        self.gives(let(plus(num(1), num(2)), num(8)), [], [], 8, 5)


class Calls(unittest.TestCase):
    def test_steps(self):
        asked = [constant(0, 1, 9), define(0, 2, [0, 9, 0, 9], (0, 9), 3, 3, minus(var(0), var(1)))]
        for body, given in ((call(1), [0, 9, 2]), (call(2, num(7), num(5)), [0, 2, 6]),
                            (call(2, call(1), plus(num(1), num(3))), [0, 5, 9]),
                            (plus(call(1), call(1)), [0, 18, 5])):
            self.assertEqual(last(*asked, wide(7, [], body), evaluate(7)), given)

    def test_the_steps_are_those_of_the_run_and_not_of_the_word(self):
        asked = [constant(0, 1, 9, 500), wide(7, [], call(1)), evaluate(1), evaluate(7)]
        self.assertEqual(ask(*asked)[2:], [[0, 9, 1], [0, 9, 2]])

    def test_the_value_is_that_of_the_run_and_not_of_the_word(self):
        told = define(0, 1, [], (0, 500), 0, 9, num(77))
        self.assertEqual(last(told, wide(7, [], call(1)), evaluate(7)), [0, 77, 2])

    def test_arguments_in_their_order(self):
        first = define(0, 1, [0, 9] * 4, (0, 9999), 15, 99,
                       plus(times(var(0), num(1000)), plus(times(var(1), num(100)), plus(times(var(2), num(10)), var(3)))))
        given = last(first, wide(7, [0, 9] * 4, call(1, var(3), var(2), var(1), var(0))), evaluate(7, 1, 2, 3, 4))
        self.assertEqual(given, [0, 4321, 18])

    def test_the_called_one_has_its_own_variables(self):
        first = define(0, 1, [0, 9], (0, 18), 1, 9, let(var(0), plus(var(0), var(1))))
        body = let(num(4), let(num(2), plus(call(1, var(2)), plus(var(0), var(1)))))
        self.assertEqual(last(first, wide(7, [0, 9], body), evaluate(7, 1)), [0, 9, 15])

    def test_over_several_programs(self):
        asked = [constant(0, 0, 1)]
        value, steps = 1, 1
        for f in range(1, 16):
            asked.append(define(0, f, [], (value + f, value + f), 0, steps + 3, plus(call(f - 1), num(f))))
            value, steps = value + f, steps + 3
        self.assertEqual(last(*asked, evaluate(15)), [0, 121, 46])

    def test_twice_over_each_of_several(self):
        asked = [constant(0, 0, 1)]
        value, steps = 1, 1
        for f in range(1, 12):
            value, steps = 2 * value, 2 * steps + 3
            asked.append(define(0, f, [], (value, value), 0, steps, plus(call(f - 1), call(f - 1))))
        self.assertEqual(last(*asked, evaluate(11)), [0, 2048, 8189])

    def test_in_each_place_of_a_choice(self):
        asked = [define(0, 1, [0, 9], (0, 9), 1, 3, minus(var(0), num(1)))]
        for body, args, given in (
                (choice(call(1, var(0)), num(5), num(6)), (1,), [0, 6, 7]),
                (choice(call(1, var(0)), num(5), num(6)), (2,), [0, 5, 7]),
                (choice(var(0), call(1, num(7)), num(9)), (1,), [0, 6, 7]),
                (choice(var(0), call(1, num(7)), num(9)), (0,), [0, 9, 3]),
                (choice(var(0), num(9), call(1, num(7))), (1,), [0, 9, 3]),
                (choice(var(0), num(9), call(1, num(7))), (0,), [0, 6, 7]),
                (choice(var(0), call(1, num(0)), num(9)), (1,), [0, 0, 7]),
                (let(call(1, var(0)), choice(var(1), var(1), num(8))), (1,), [0, 8, 9]),
                (let(call(1, var(0)), choice(var(1), var(1), num(8))), (4,), [0, 3, 9])):
            self.assertEqual(last(*asked, wide(7, [0, 9], body), evaluate(7, *args)), given, body)

    def test_an_argument_that_is_used_and_does_not_matter(self):
        asked = [define(0, 1, [0, 9], (5, 5), 0, 3, let(var(0), num(5))),
                 define(0, 7, [0, 9], (5, 5), 0, 5, call(1, var(0)))]
        for v in (0, 9):
            self.assertEqual(last(*asked, evaluate(7, v)), [0, 5, 5])


class InForce(unittest.TestCase):
    def test_the_last_version_told(self):
        given = ask(constant(0, 7, 1), evaluate(7), wide(7, [0, 9], plus(var(0), num(2))), evaluate(7), evaluate(7, 3),
                    back(0, 7), evaluate(7, 3), evaluate(7))
        self.assertEqual(given, [[0], [0, 1, 1], [1], [-22], [0, 5, 3], [1], [-22], [0, 1, 1]])

    def test_the_called_one_s_last_version(self):
        first = define(0, 1, [], (0, 9), 0, 5, num(3))
        second = define(0, 1, [], (0, 9), 0, 5, plus(num(3), num(4)))
        given = ask(first, wide(7, [], call(1)), evaluate(7), second, evaluate(7), back(0, 1), evaluate(7))
        self.assertEqual(given[2::2], [[0, 3, 2], [0, 7, 4], [0, 3, 2]])

    def test_it_changes_nothing(self):
        asked = [define(0, 7, [0, 9], (0, 9), 1, 9, var(0))]
        self.assertEqual(state(*asked, evaluate(7, 3), evaluate(7, 10), evaluate(8)), state(*asked))


class Refusals(unittest.TestCase):
    def test_not_there(self):
        for f in (0, 6, 8, 15, 16, 255, MOST):
            self.assertEqual(last(constant(0, 7), evaluate(f)), [-2])
        self.assertEqual(last(constant(0, 7), drop(0, 7), evaluate(7)), [-2])

    def test_how_many_arguments(self):
        for there in range(5):
            for handed in range(11):
                given = last(wide(7, [0, 9] * there, num(4)), evaluate(7, *[3] * handed))
                self.assertEqual(given, [0, 4, 1] if handed == there else [-22])

    def test_the_ends_of_a_bound(self):
        told = define(0, 7, [4, 8], (4, 8), 1, 1, var(0))
        for v, given in ((0, [-22]), (3, [-22]), (4, [0, 4, 1]), (6, [0, 6, 1]), (8, [0, 8, 1]), (9, [-22]), (MOST, [-22])):
            self.assertEqual(last(told, evaluate(7, v)), given)

    def test_the_ends_of_each_bound(self):
        params = [1, 2, 3, 4, 5, 6, 7, 8]
        for k in range(4):
            told = wide(7, params, var(k))
            args = [1, 3, 5, 7]
            for v, given in ((params[2 * k] - 1, [-22]), (params[2 * k], [0, params[2 * k], 1]),
                             (params[2 * k + 1], [0, params[2 * k + 1], 1]), (params[2 * k + 1] + 1, [-22])):
                args[k] = v
                self.assertEqual(last(told, evaluate(7, *args)), given)

    def test_an_argument_that_does_not_matter_must_be_within_its_bound_too(self):
        told = define(0, 7, [4, 8], (1, 1), 0, 1, num(1))
        self.assertEqual(last(told, evaluate(7, 9)), [-22])

    def test_the_whole_bound(self):
        told = wide(7, [0, MOST], var(0))
        for v in (0, MOST):
            self.assertEqual(last(told, evaluate(7, v)), [0, v, 1])

    def test_not_there_is_named_first(self):
        self.assertEqual(last(constant(0, 7), evaluate(8, 1, 2, 3, 4, 5, 6, 7, 8, 9, 10)), [-2])


class Deep(unittest.TestCase):
    """Bodies of 200 numbers, nested as deep as they can be."""

    def bodies(self, innermost, many):
        """So many expressions around an innermost one, and what each row makes of that one's value."""
        return [
            ([2, 0, 1] * many + innermost, lambda v: v + many),
            ([2] * many + innermost + [0, 1] * many, lambda v: v + many),
            ([6, 0, 500] * many + innermost, lambda v: v),
            ([10, 0, 1] * many + innermost, lambda v: v),
            ([10] * many + innermost + [0, 1] * many, lambda v: 1),
        ]

    def low(self, line):
        """The answers, with hardly any nesting left to Python."""
        depth = 0
        frame = sys._getframe()
        while frame is not None:
            depth, frame = depth + 1, frame.f_back
        limit = sys.getrecursionlimit()
        sys.setrecursionlimit(depth + 40)
        try:
            return told_apart(answers(line))
        finally:
            sys.setrecursionlimit(limit)

    def test_one_body(self):
        for body, made in self.bodies(num(5), 66):
            self.assertEqual(len(body), 200)
            given = self.low(begin() + wide(7, [], body) + evaluate(7))
            self.assertEqual(given[-1], [0, made(5), 133])

    def test_choices(self):
        # 39 choices, each within the one around it, at its first, second or third place, with 5 numbers each.
        inner = num(5)
        for body, value, steps in (
                ([9] * 39 + inner + [0, 1, 0, 2] * 39, 1, 79),
                ([9, 0, 1] * 39 + inner + [0, 2] * 39, 5, 79),
                ([9, 0, 0, 0, 2] * 39 + inner, 5, 79),
                ([9, 0, 1, 0, 2] * 39 + inner, 2, 3)):
            given = self.low(begin() + wide(7, [], body) + evaluate(7))
            self.assertEqual(given[-1], [0, value, steps])

    def test_calls_within_calls(self):
        first = define(0, 1, [0, 9], (0, 9), 1, 1, var(0))
        given = self.low(begin() + first + wide(7, [], [11, 1, 1] * 66 + num(5)) + evaluate(7))
        self.assertEqual(given[-1], [0, 5, 133])

    def test_through_all_programs(self):
        for k in range(5):
            line = begin() + constant(0, 0, 5)
            value, steps = 5, 1
            for f in range(1, 16):
                body, made = self.bodies(call(f - 1), 65)[k]
                value, steps = made(value), steps + 131
                line += define(0, f, [], (0, value), 0, steps, body)
            given = self.low(line + evaluate(15))
            self.assertEqual(given[-1], [0, value, steps])


if __name__ == "__main__":
    unittest.main()
