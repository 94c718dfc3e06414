"""The promises 1, 2, 3, 5 and 6 as whichbroke.works keeps them."""

import unittest

from tests.refusing import RefusingTest
from tests.samples import (all_sets, called, part_rule, sample_works, small_work, wrong_givens, wrong_looks,
                           wrong_sets, wrong_works)
from whichbroke.errors import BadGiven, BadLook, BadSet, BadWork
from whichbroke.works import given_of, need_given, need_look, need_set, need_work


class NeedWorkTest(RefusingTest):

    def test_sample_works_are_works(self):
        for work in sample_works():
            self.assertIs(called(need_work, work), True)

    def test_rings_from_2_to_5(self):
        for ring in (2, 3, 4, 5):
            self.assertIs(need_work((ring, 1, [("not", 0)])), True)
        for ring in (-1, 0, 1, 6, 7):
            self.refused(BadWork, need_work, (ring, 1, [("not", 0)]))

    def test_inputs_from_1_to_6(self):
        for inputs in (1, 2, 3, 4, 5, 6):
            self.assertIs(need_work((2, inputs, [("not", inputs - 1)])), True)
        for inputs in (-1, 0, 7, 8):
            self.refused(BadWork, need_work, (2, inputs, [("not", 0)]))

    def test_parts_from_1_to_10(self):
        for many in range(1, 11):
            self.assertIs(need_work((2, 1, [("not", 0)] * many)), True)
        for many in (0, 11, 12):
            self.refused(BadWork, need_work, (2, 1, [("not", 0)] * many))

    def test_a_part_takes_any_line_ahead_of_its_own(self):
        for line in (0, 1, 2, 3):
            for part in (("not", line), ("sum", line, line), ("stop", 0, line), ("pick", line, 3, line)):
                self.assertIs(need_work((3, 2, [("not", 0), ("not", 1), part])), True)
        for part in (("not", 4), ("sum", 4, 0), ("stop", 0, 4), ("pick", 0, 0, 5), ("pick", 0, 4, 0), ("not", -1)):
            self.refused(BadWork, need_work, (3, 2, [("not", 0), ("not", 1), part]))

    def test_what_is_no_work_is_refused(self):
        self.all_refused(BadWork, need_work, wrong_works())


class GivenOfTest(unittest.TestCase):

    def test_sum_gives_the_rest_by_the_ring(self):
        self.assertEqual(given_of(("sum", 0, 1), [2, 2], 3), 1)
        self.assertEqual(given_of(("sum", 0, 1), [1, 1], 2), 0)
        self.assertEqual(given_of(("sum", 0, 1), [4, 4], 5), 3)
        self.assertEqual(given_of(("sum", 0, 1), [1, 2], 5), 3)

    def test_stop_gives_the_first_where_the_second_is_0(self):
        self.assertEqual(given_of(("stop", 0, 1), [2, 0], 3), 2)
        self.assertEqual(given_of(("stop", 0, 1), [2, 1], 3), 0)
        self.assertEqual(given_of(("stop", 0, 1), [2, 2], 3), 0)
        self.assertEqual(given_of(("stop", 1, 0), [0, 2], 3), 2)

    def test_pick_gives_the_second_where_the_first_is_0_else_the_third(self):
        self.assertEqual(given_of(("pick", 0, 1, 2), [0, 1, 2], 3), 1)
        self.assertEqual(given_of(("pick", 0, 1, 2), [1, 1, 2], 3), 2)
        self.assertEqual(given_of(("pick", 0, 1, 2), [4, 3, 2], 5), 2)

    def test_not_gives_the_highest_less_the_digit(self):
        for ring in (2, 3, 4, 5):
            for digit in range(ring):
                self.assertEqual(given_of(("not", 0), [digit], ring), ring - 1 - digit)

    def test_the_same_line_more_than_once(self):
        self.assertEqual(given_of(("sum", 1, 1), [0, 4], 5), 3)
        self.assertEqual(given_of(("stop", 1, 1), [0, 4], 5), 0)
        self.assertEqual(given_of(("pick", 1, 1, 1), [0, 4], 5), 4)

    def test_digits_of_more_lines_are_passed_over(self):
        self.assertEqual(given_of(("sum", 0, 2), [1, 0, 1, 2, 2, 2], 3), 2)

    def test_all_digits_of_all_rings(self):
        for ring in (2, 3, 4, 5):
            for first in range(ring):
                for second in range(ring):
                    digits = [first, second, ring - 1]
                    for part in (("sum", 0, 1), ("stop", 0, 1), ("pick", 0, 1, 2), ("not", 1)):
                        told = called(given_of, part, digits, ring)
                        taken = [digits[line] for line in part[1:]]
                        self.assertEqual(told, part_rule(ring, part[0], taken))
                        self.assertIs(told.__class__, int)


class NeedGivenTest(RefusingTest):

    def test_inputs_of_sample_works(self):
        for work in sample_works():
            for digit in range(work[0]):
                self.assertIs(called(need_given, work, (digit,) * work[1]), True)

    def test_one_and_six_inputs(self):
        self.assertIs(need_given((5, 1, [("not", 0)]), (4,)), True)
        self.assertIs(need_given((2, 6, [("not", 0)]), (0, 1, 0, 1, 0, 1)), True)
        self.refused(BadGiven, need_given, (5, 1, [("not", 0)]), (5,))
        self.refused(BadGiven, need_given, (2, 6, [("not", 0)]), (0, 1, 0, 1, 0, 2))
        self.refused(BadGiven, need_given, (2, 6, [("not", 0)]), (0, 1, 0, 1, 0))

    def test_what_are_no_inputs_is_refused(self):
        for work in sample_works():
            self.all_refused(BadGiven, lambda thing: need_given(work, thing), wrong_givens(work))


class NeedLookTest(RefusingTest):

    def test_no_line_and_all_lines_seen(self):
        for work in sample_works():
            ring, inputs, parts = work
            given = (ring - 1,) * inputs
            every = tuple((inputs + number, number % ring) for number in range(len(parts)))
            self.assertIs(called(need_look, work, (given, ())), True)
            self.assertIs(called(need_look, work, (given, every)), True)
            for pair in every:
                self.assertIs(called(need_look, work, (given, (pair,))), True)

    def test_lines_that_rise_with_gaps(self):
        self.assertIs(need_look(small_work(), ((0, 0), ((2, 2), (5, 0)))), True)

    def test_an_input_line_is_not_seen(self):
        self.refused(BadLook, need_look, small_work(), ((0, 0), ((1, 0),)))

    def test_wrong_inputs_in_a_look_are_a_bad_look(self):
        for given in ((0,), (0, 3), (0, True), [0, 0], None):
            self.refused(BadLook, need_look, small_work(), (given, ()))

    def test_what_is_no_look_is_refused(self):
        for work in (small_work(), sample_works()[3], sample_works()[9]):
            self.all_refused(BadLook, lambda thing: need_look(work, thing), wrong_looks(work))


class NeedSetTest(RefusingTest):

    def test_all_sets_the_empty_one_and_that_of_all_too(self):
        for work in sample_works():
            for broken in all_sets(work):
                self.assertIs(called(need_set, work, broken), True)

    def test_one_part_alone(self):
        work = (2, 1, [("not", 0)])
        self.assertIs(need_set(work, ()), True)
        self.assertIs(need_set(work, (0,)), True)
        self.refused(BadSet, need_set, work, (1,))

    def test_what_is_no_set_is_refused(self):
        for work in (small_work(), sample_works()[3], sample_works()[9]):
            self.all_refused(BadSet, lambda thing: need_set(work, thing), wrong_sets(work))


if __name__ == "__main__":
    unittest.main()
