"""The promises 1, 6 and 8 as whichbroke.leastsets keeps them."""

import random
import unittest

from tests.opinion import in_order, slow_least_sets, slow_leaving
from tests.samples import all_sets, called, random_work, sample_works, small_work, some_looks
from whichbroke.leastsets import least_sets
from whichbroke.rooms import rooms

# At the small work, these inputs and this digit of line 5 clash with all parts whole.
ODD = ((1, 2), ((5, 2),))
EVEN = ((1, 2), ((5, 0),))


def apart(ring, many):
    """A work of parts that take nothing of each other."""
    return (ring, 1, [("not", 0)] * many)


class LeastSetsTest(unittest.TestCase):

    def test_without_looks_the_one_empty_set(self):
        for work in sample_works():
            self.assertEqual(called(least_sets, work, []), [()])

    def test_looks_at_a_work_that_is_whole(self):
        self.assertEqual(called(least_sets, small_work(), [EVEN]), [()])
        self.assertEqual(called(least_sets, small_work(), [EVEN, ((0, 0), ()), EVEN]), [()])

    def test_one_look(self):
        self.assertEqual(called(least_sets, small_work(), [ODD]), [(1,), (2,), (3,)])

    def test_the_same_look_twice(self):
        self.assertEqual(called(least_sets, small_work(), [ODD, ODD]), [(1,), (2,), (3,)])

    def test_a_set_leaves_room_for_each_of_several_looks(self):
        self.assertEqual(called(least_sets, small_work(), [ODD, ((0, 0), ((2, 2),))]), [(0, 1), (0, 2), (0, 3)])
        self.assertEqual(called(least_sets, small_work(), [((0, 0), ((2, 2),)), ODD, EVEN]), [(0, 1), (0, 2), (0, 3)])

    def test_sets_with_fewer_parts_come_first(self):
        work = (2, 1, [("not", 0), ("not", 0), ("sum", 1, 2), ("not", 0)])
        looks = [((0,), ((3, 1),)), ((0,), ((3, 0), (4, 1)))]
        self.assertEqual(called(least_sets, work, looks), [(0,), (1,), (2,)])
        looks = [((0,), ((1, 1), (3, 1))), ((0,), ((2, 1), (3, 1), (4, 0)))]
        self.assertEqual(called(least_sets, work, looks), [(2, 3), (0, 1, 3)])

    def test_looks_for_which_only_large_sets_leave_room(self):
        for ring in (2, 5):
            for many in range(1, 11):
                seen = tuple((line, 0) for line in range(1, many + 1))
                self.assertEqual(called(least_sets, apart(ring, many), [((0,), seen)]), [tuple(range(many))])
                one_by_one = [((0,), (pair,)) for pair in seen]
                self.assertEqual(called(least_sets, apart(ring, many), one_by_one), [tuple(range(many))])
                without_the_first = [((0,), (pair,)) for pair in seen[1:]]
                self.assertEqual(least_sets(apart(ring, many), without_the_first), [tuple(range(1, many))])

    def test_one_part(self):
        for ring in (2, 5):
            work = apart(ring, 1)
            self.assertEqual(called(least_sets, work, []), [()])
            self.assertEqual(called(least_sets, work, [((0,), ((1, ring - 1),))]), [()])
            self.assertEqual(called(least_sets, work, [((0,), ((1, 0),))]), [(0,)])
            self.assertEqual(called(least_sets, work, [((0,), ((1, 0),)), ((0,), ((1, ring - 1),))]), [(0,)])

    def test_ten_parts_of_ring_5_in_a_row(self):
        work = (5, 1, [("not", line) for line in range(10)])
        self.assertEqual(called(least_sets, work, [((1,), ((10, 0),))]), [(number,) for number in range(10)])
        look = ((1,), ((5, 0), (10, 0)))
        expected = [(first, second) for first in range(5) for second in range(5, 10)]
        self.assertEqual(called(least_sets, work, [look]), expected)

    def test_ten_parts_of_ring_5_of_which_many_lines_are_free(self):
        work = (5, 2, [("not", 0)] * 7 + [("pick", 2, 3, 4), ("pick", 5, 6, 7), ("pick", 8, 2, 5)])
        # With the inputs 0 the first seven give 4: line 9 is line 4, line 10 line 7, line 11 line 5.
        look = ((0, 0), ((9, 4), (10, 4), (11, 3)))
        self.assertEqual(called(least_sets, work, [look]), [(3,), (9,), (0, 6)])

    def test_all_sets_and_digits_of_sample_works(self):
        chance = random.Random(19)
        for work in sample_works():
            looks = some_looks(work, chance.randrange)
            for some in ([], looks[:1], looks[1:2], looks[1:3], looks[5:], looks):
                if work[0] ** len(work[2]) <= 1024:
                    self.assertEqual(called(least_sets, work, some), slow_least_sets(work, some), (work, some))

    def test_ordinary_works(self):
        chance = random.Random(23)
        lengths = set()
        for _ in range(150):
            work = random_work(chance)
            looks = some_looks(work, chance.randrange)[chance.randint(0, 4):]
            told = called(least_sets, work, looks)
            self.assertEqual(told, slow_least_sets(work, looks), (work, looks))
            lengths.update(len(each) for each in told)
        self.assertLessEqual({0, 1, 2, 3, 4}, lengths)

    def test_ten_parts_of_ring_5_with_most_lines_seen(self):
        chance = random.Random(29)
        for _ in range(6):
            parts = [(word, *[chance.randrange(2 + number) for _ in range(takes)])
                     for number, (word, takes) in enumerate([("sum", 2), ("pick", 3), ("not", 1), ("stop", 2)] * 2
                                                            + [("sum", 2), ("pick", 3)])]
            work = (5, 2, parts)
            looks = []
            for _ in range(2):
                lines = sorted(chance.sample(range(2, 12), 7))
                looks.append(((chance.randrange(5), chance.randrange(5)),
                              tuple((line, chance.randrange(5)) for line in lines)))
            self.assertEqual(called(least_sets, work, looks), slow_least_sets(work, looks), (work, looks))

    def test_a_set_leaves_room_just_where_a_least_one_is_in_it(self):
        chance = random.Random(31)
        for _ in range(40):
            work = random_work(chance)
            looks = some_looks(work, chance.randrange)[:3]
            told = least_sets(work, looks)
            self.assertEqual(told, in_order(told))
            leaving = slow_leaving(work, looks)
            for broken in all_sets(work):
                has_one = any(set(each) <= set(broken) for each in told)
                self.assertEqual(has_one, broken in leaving)
                self.assertEqual(has_one, rooms(work, looks, broken) is not None)

    def test_an_answer_is_a_list_of_tuples_of_whole_numbers(self):
        for looks in ([], [ODD], [EVEN]):
            told = least_sets(small_work(), looks)
            self.assertIs(told.__class__, list)
            self.assertEqual({each.__class__ for each in told}, {tuple})
            self.assertLessEqual({number.__class__ for each in told for number in each}, {int})

    def test_an_answer_is_the_askers_own(self):
        for looks, expected in (([], [()]), ([ODD], [(1,), (2,), (3,)])):
            first = least_sets(small_work(), looks)
            first.append((0,))
            first[0] = None
            self.assertEqual(least_sets(small_work(), looks), expected)

    def test_nothing_handed_in_is_kept(self):
        work = small_work()
        looks = [ODD]
        first = least_sets(work, looks)
        looks.append(((0, 0), ((2, 2),)))
        self.assertEqual(first, [(1,), (2,), (3,)])
        self.assertEqual(least_sets(work, looks), [(0, 1), (0, 2), (0, 3)])
        work[2][3] = ("sum", 2, 2)
        self.assertEqual(least_sets(work, [ODD]), [(0,), (3,)])


if __name__ == "__main__":
    unittest.main()
