"""The promises 1 and 4 as whichbroke.running keeps them."""

import unittest
from itertools import product

from tests.refusing import RefusingTest
from tests.samples import all_sets, called, part_rule, sample_works, small_work, wrong_givens
from whichbroke.errors import BadGiven
from whichbroke.running import ran


def slow_run(work, given, told):
    """The digits of all lines, worked out apart from the program."""
    ring, inputs, parts = work
    row = list(given)
    for number, part in enumerate(parts):
        should = part_rule(ring, part[0], [row[line] for line in part[1:]])
        row.append(told.get(number, should))
    return row


class RanTest(RefusingTest):

    def test_part_by_part(self):
        self.assertEqual(called(ran, small_work(), (1, 2), {}), [1, 2, 0, 0, 2, 0])
        self.assertEqual(called(ran, small_work(), (0, 2), {}), [0, 2, 2, 2, 2, 0])

    def test_parts_behind_go_by_what_was_told(self):
        self.assertEqual(called(ran, small_work(), (1, 2), {1: 2}), [1, 2, 0, 2, 0, 2])
        self.assertEqual(called(ran, small_work(), (1, 2), {0: 1}), [1, 2, 1, 0, 2, 0])
        self.assertEqual(called(ran, small_work(), (1, 2), {3: 1}), [1, 2, 0, 0, 2, 1])

    def test_told_in_any_order_and_told_0(self):
        self.assertEqual(called(ran, small_work(), (0, 2), {2: 1, 0: 0}), [0, 2, 0, 0, 1, 1])

    def test_all_parts_told(self):
        self.assertEqual(called(ran, small_work(), (0, 2), {0: 1, 1: 1, 2: 0, 3: 0}), [0, 2, 1, 1, 0, 0])

    def test_one_part_of_one_input(self):
        for ring in (2, 5):
            for digit in range(ring):
                self.assertEqual(ran((ring, 1, [("not", 0)]), (digit,), {}), [digit, ring - 1 - digit])

    def test_sample_works_on_all_inputs(self):
        for work in sample_works():
            for given in product(range(work[0]), repeat=work[1]):
                for told in ({}, {0: work[0] - 1}, {len(work[2]) - 1: 0, 0: 0}):
                    self.assertEqual(ran(work, given, told), slow_run(work, given, told))

    def test_every_set_of_parts_told(self):
        for work in sample_works()[:8]:
            for numbers in all_sets(work):
                told = {number: (number + 1) % work[0] for number in numbers}
                given = (work[0] - 1,) * work[1]
                self.assertEqual(called(ran, work, given, told), slow_run(work, given, told))

    def test_what_are_no_inputs_is_refused(self):
        for work in sample_works():
            self.all_refused(BadGiven, lambda thing: ran(work, thing, {}), wrong_givens(work))

    def test_an_answer_is_the_askers_own(self):
        work = small_work()
        told = {1: 2}
        first = ran(work, (1, 2), told)
        first[:] = [9]
        first.append(9)
        self.assertEqual(ran(work, (1, 2), told), [1, 2, 0, 2, 0, 2])
        self.assertEqual(work, small_work())
        self.assertEqual(told, {1: 2})

    def test_nothing_handed_in_is_kept(self):
        work = small_work()
        told = {}
        first = ran(work, (1, 2), told)
        work[2][3] = ("sum", 4, 4)
        told[0] = 1
        self.assertEqual(first, [1, 2, 0, 0, 2, 0])
        self.assertEqual(ran(work, (1, 2), told), [1, 2, 1, 0, 2, 1])


if __name__ == "__main__":
    unittest.main()
