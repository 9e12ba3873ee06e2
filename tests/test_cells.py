"""Promises 7 (put), 9 (narrow, clear), 10 (read, seen, how) and what begin says of cells."""

import unittest

from helper import (
    EVERYBODY, MOST, ask, begin, clear, constant, define, how, last, many, narrow, put, read, run, seen, state, var,
)


class Beginning(unittest.TestCase):
    def test_cells_at_the_beginning(self):
        for k in (0, 1, 17, 31):
            given = ask(seen(k), how(k), *[read(who, k) for who in range(16)])
            self.assertEqual(given, [[0, EVERYBODY, 0, 0], [0]] + [[0, 0]] * 16)

    def test_begin_again(self):
        asked = [put(3, k, (4, 9), 5, 1 << 3) for k in range(32)] + [constant(0, 7, 8), run(0, 7, 30)]
        self.assertNotEqual(state(*asked), state())
        self.assertEqual(state(*asked, begin()), state())

    def test_begin_again_and_go_on(self):
        given = ask(put(3, 2, (4, 9), 5), begin(), put(1, 3, (7, 7), 7), read(0, 3), read(0, 2), how(2), how(3))
        self.assertEqual(given[2:], [[0], [0, 7], [0, 0], [0], [1, 1]])


class Put(unittest.TestCase):
    def test_it_is_there(self):
        given = ask(put(3, 5, (4, 9), 7, 10), read(1, 5), read(3, 5), seen(5), how(5))
        self.assertEqual(given, [[0], [0, 7], [0, 7], [0, 10, 4, 9], [1, 3]])

    def test_the_ends_of_who_and_k(self):
        for who in (0, 15):
            for k in (0, 31):
                given = ask(put(who, k, (4, 9), 7), read(0, k), seen(k), how(k))
                self.assertEqual(given, [[0], [0, 7], [0, EVERYBODY, 4, 9], [1, who]])

    def test_no_other_cell_is_changed(self):
        given = ask(put(3, 5, (4, 9), 7, 10), *[seen(k) for k in range(32) if k != 5], *[how(k) for k in range(32) if k != 5])
        self.assertEqual(given[1:], [[0, EVERYBODY, 0, 0]] * 31 + [[0]] * 31)

    def test_the_ends_of_a_bound(self):
        for v, answer in ((3, -22), (4, 0), (9, 0), (10, -22), (0, -22), (MOST, -22)):
            self.assertEqual(last(put(3, 5, (4, 9), v)), [answer])

    def test_bounds(self):
        for bound, v, answer in (((0, 0), 0, 0), ((0, 0), 1, -22), ((MOST, MOST), MOST, 0), ((0, MOST), MOST, 0),
                                 ((MOST, MOST), MOST - 1, -22), ((5, 5), 5, 0), ((6, 5), 5, -22), ((6, 5), 6, -22),
                                 ((MOST, 0), 0, -22), ((MOST, 0), MOST, -22), ((MOST, 0), 7, -22)):
            self.assertEqual(last(put(3, 5, bound, v)), [answer])

    def test_masks(self):
        for mask, answer in ((0, 0), (1, 0), (32768, 0), (EVERYBODY, 0), (EVERYBODY + 1, -22), (EVERYBODY + 2, -22),
                             (MOST, -22)):
            self.assertEqual(last(put(3, 5, (4, 9), 7, mask)), [answer])

    def test_who_and_k_too_great(self):
        for who in (16, 17, 255, MOST):
            self.assertEqual(last(put(who, 5, (4, 9), 7)), [-22])
        for k in (32, 33, 255, MOST):
            self.assertEqual(last(put(3, k, (4, 9), 7)), [-22])

    def test_anybody_may_put_anew(self):
        given = ask(put(3, 5, (4, 9), 7, 1 << 3), put(2, 5, (1, 2), 1, 1 << 4), read(3, 5), read(2, 5), read(4, 5),
                    seen(5), how(5))
        self.assertEqual(given, [[0], [0], [-13], [-13], [0, 1], [0, 16, 1, 2], [1, 2]])

    def test_what_was_narrowed_is_wide_again(self):
        self.assertEqual(last(put(3, 5, (4, 9), 7, 0), put(3, 5, (4, 9), 7), seen(5)), [0, EVERYBODY, 4, 9])

    def test_it_makes_no_entry(self):
        self.assertEqual(last(put(3, 5, (4, 9), 7), many()), [0, 0])


class Read(unittest.TestCase):
    def test_just_those_in_the_mask(self):
        for mask in (0, 1, 2, 32768, 0b1010101010101010, EVERYBODY - 8, EVERYBODY):
            given = ask(put(3, 5, (4, 9), 7, mask), *[read(who, 5) for who in range(16)])
            self.assertEqual(given[1:], [[0, 7] if mask >> who & 1 else [-13] for who in range(16)])

    def test_who_put_it_needs_the_bit_too(self):
        self.assertEqual(last(put(3, 5, (4, 9), 7, EVERYBODY - 8), read(3, 5)), [-13])

    def test_too_great(self):
        for who, k in ((16, 5), (MOST, 5), (3, 32), (3, MOST), (16, 32), (32, 5)):
            self.assertEqual(last(put(3, 5, (4, 9), 7), read(who, k)), [-22])

    def test_too_great_is_named_first(self):
        self.assertEqual(last(put(3, 5, (4, 9), 7, 0), read(16, 5)), [-22])

    def test_the_greatest_value(self):
        self.assertEqual(last(put(3, 5, (0, MOST), MOST), read(3, 5)), [0, MOST])

    def test_it_changes_nothing(self):
        asked = [put(3, 5, (4, 9), 7, 8)]
        self.assertEqual(state(*asked, read(3, 5), read(2, 5), seen(5), how(5), seen(32), how(32)), state(*asked))


class SeenAndHow(unittest.TestCase):
    def test_no_cell(self):
        for k in (32, 33, 64, MOST):
            self.assertEqual(ask(seen(k), how(k)), [[-22], [-22]])

    def test_how_is_told_of_what_nobody_may_see(self):
        self.assertEqual(ask(put(3, 5, (4, 9), 7, 0), seen(5), how(5)), [[0], [0, 0, 4, 9], [1, 3]])

    def test_the_bound_is_the_one_that_was_told(self):
        self.assertEqual(last(put(3, 5, (0, MOST), 7), seen(5)), [0, EVERYBODY, 0, MOST])

    def test_by_person_0(self):
        self.assertEqual(last(put(0, 5, (4, 9), 7), how(5)), [1, 0])


class Narrow(unittest.TestCase):
    def test_only_those_in_both(self):
        given = ask(put(3, 5, (4, 9), 7, 0b1110), narrow(3, 5, 0b0111), seen(5), how(5),
                    *[read(who, 5) for who in range(5)])
        self.assertEqual(given, [[0], [0], [0, 0b0110, 4, 9], [1, 3], [-13], [0, 7], [0, 7], [-13], [-13]])

    def test_nobody_is_let_in(self):
        given = ask(put(3, 5, (4, 9), 7, 2), narrow(3, 5, EVERYBODY), seen(5), narrow(3, 5, EVERYBODY - 2), seen(5),
                    narrow(3, 5, EVERYBODY), seen(5))
        self.assertEqual(given[2::2], [[0, 2, 4, 9], [0, 0, 4, 9], [0, 0, 4, 9]])

    def test_who_may_not_see_it_may_narrow_it(self):
        given = ask(put(3, 5, (4, 9), 7, 6), narrow(3, 5, 2), seen(5))
        self.assertEqual(given, [[0], [0], [0, 2, 4, 9]])

    def test_after_a_run(self):
        asked = [constant(0, 7, 8), put(3, 5, (4, 9), 7), run(2, 7, 5)]
        given = ask(*asked, narrow(3, 5, 1), narrow(0, 5, 1), narrow(2, 5, 1), seen(5), how(5))
        self.assertEqual(given[3:], [[-1], [-1], [0], [0, 1, 8, 8], [2, 2, 7, 0]])

    def test_it_was_not_who(self):
        for who in (0, 2, 4, 15, 16, 19, MOST):
            self.assertEqual(last(put(3, 5, (4, 9), 7), narrow(who, 5, 1)), [-1])

    def test_who_put_it_before_another(self):
        self.assertEqual(ask(put(3, 5, (4, 9), 7), put(2, 5, (4, 9), 7), narrow(3, 5, 1), narrow(2, 5, 1))[2:], [[-1], [0]])

    def test_from_nobody(self):
        for who in range(16):
            self.assertEqual(last(narrow(who, 5, 1)), [-1])

    def test_too_great(self):
        for k, mask in ((32, 1), (MOST, 1), (5, EVERYBODY + 1), (5, MOST), (32, EVERYBODY + 1)):
            self.assertEqual(last(put(3, 5, (4, 9), 7), narrow(3, k, mask)), [-22])
        self.assertEqual(last(put(3, 31, (4, 9), 7), narrow(3, 31, EVERYBODY)), [0])

    def test_too_great_is_named_first(self):
        for who in (2, 16):
            self.assertEqual(last(put(3, 5, (4, 9), 7), narrow(who, 5, EVERYBODY + 1)), [-22])
            self.assertEqual(last(put(3, 5, (4, 9), 7), narrow(who, 32, 1)), [-22])


class Clear(unittest.TestCase):
    def test_as_at_the_beginning(self):
        asked = [put(3, 5, (4, 9), 7, 2)]
        self.assertNotEqual(state(*asked), state())
        self.assertEqual(last(*asked, clear(3, 5)), [0])
        self.assertEqual(state(*asked, clear(3, 5)), state())

    def test_after_a_run(self):
        asked = [constant(0, 7, 8), put(3, 5, (4, 9), 7), run(2, 7, 5)]
        given = ask(*asked, clear(3, 5), clear(2, 5), read(9, 5), seen(5), how(5))
        self.assertEqual(given[3:], [[-1], [0], [0, 0], [0, EVERYBODY, 0, 0], [0]])

    def test_from_nobody(self):
        for who in range(16):
            self.assertEqual(last(clear(who, 5)), [-1])

    def test_it_is_from_nobody_afterwards(self):
        given = ask(put(3, 5, (4, 9), 7), clear(3, 5), clear(3, 5), narrow(3, 5, 1))
        self.assertEqual(given[1:], [[0], [-1], [-1]])

    def test_it_was_not_who(self):
        for who in (0, 2, 4, 15, 16, 19, MOST):
            self.assertEqual(last(put(3, 5, (4, 9), 7), clear(who, 5)), [-1])

    def test_no_cell(self):
        for k in (32, 33, MOST):
            for who in (3, 2, 16):
                self.assertEqual(last(put(3, 5, (4, 9), 7), clear(who, k)), [-22])
        self.assertEqual(last(put(3, 31, (4, 9), 7), clear(3, 31)), [0])

    def test_a_narrowed_one_is_for_all_again(self):
        self.assertEqual(last(put(3, 5, (4, 9), 7), narrow(3, 5, 0), clear(3, 5), seen(5)), [0, EVERYBODY, 0, 0])

    def test_no_other_cell_is_changed(self):
        given = ask(put(3, 5, (4, 9), 7), put(3, 6, (4, 9), 7), clear(3, 5), seen(6), how(6), narrow(3, 6, 1), seen(7), seen(5))
        self.assertEqual(given[3:], [[0, EVERYBODY, 4, 9], [1, 3], [0], [0, EVERYBODY, 0, 0], [0, EVERYBODY, 0, 0]])

    def test_a_cell_that_a_result_came_from(self):
        asked = [define(0, 7, [0, 9], (0, 9), 1, 1, var(0)), put(3, 5, (4, 9), 7, 8), run(3, 7, 6, 5)]
        given = ask(*asked, clear(3, 5), read(3, 6), read(2, 6), how(6))
        self.assertEqual(given[3:], [[0], [0, 7], [-13], [2, 3, 7, 0, 5]])


if __name__ == "__main__":
    unittest.main()
