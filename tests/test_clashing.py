"""The promises 1, 9 and 10 as whichbroke.clashing keeps them."""

import random
import unittest

from tests.opinion import in_order, one_fewer, rest_of, slow_all_clashes, slow_clash, slow_least, slow_leaving
from tests.refusing import RefusingTest
from tests.samples import all_sets, called, random_work, sample_works, small_work, some_looks, wrong_sets
from whichbroke.clashing import clash, clashes
from whichbroke.errors import BadSet, HasRoom
from whichbroke.leastsets import least_sets
from whichbroke.rooms import rooms

# At the small work, these inputs and this digit of line 5 clash with all parts whole.
ODD = ((1, 2), ((5, 2),))
EVEN = ((1, 2), ((5, 0),))
ODD_SUM = ((0, 0), ((2, 2),))


def small_works_and_looks(seed, many):
    """Works that the second opinion can do, with looks, some without any."""
    chance = random.Random(seed)
    found = []
    for work in sample_works():
        if work[0] ** len(work[2]) <= 1024:
            looks = some_looks(work, chance.randrange)
            found += [(work, looks), (work, looks[:1]), (work, looks[3:5]), (work, [])]
    for _ in range(many):
        work = random_work(chance)
        found.append((work, some_looks(work, chance.randrange)[chance.randint(0, 5):]))
    return found


class ClashTest(RefusingTest):

    def test_what_is_left_of_the_parts_that_are_not_in_the_set(self):
        self.assertEqual(called(clash, small_work(), [ODD], ()), (1, 2, 3))
        self.assertEqual(called(clash, small_work(), [ODD], (0,)), (1, 2, 3))
        self.assertEqual(called(clash, small_work(), [ODD_SUM], ()), (0,))
        self.assertEqual(called(clash, small_work(), [ODD_SUM], (1, 2, 3)), (0,))

    def test_the_first_of_the_parts_are_left_out_first(self):
        # Part 0 clashes alone, and so do the three behind it: the later clash is told.
        self.assertEqual(called(clash, small_work(), [ODD, ODD_SUM], ()), (1, 2, 3))
        self.assertEqual(called(clash, small_work(), [ODD_SUM, ODD], (2,)), (0,))
        work = (2, 1, [("not", 0), ("not", 0), ("not", 0)])
        look = ((0,), ((1, 0), (2, 0), (3, 0)))
        self.assertEqual(called(clash, work, [look], ()), (2,))
        self.assertEqual(called(clash, work, [look], (2,)), (1,))
        self.assertEqual(called(clash, work, [look], (1, 2)), (0,))

    def test_one_part(self):
        for ring in (2, 5):
            work = (ring, 1, [("not", 0)])
            self.assertEqual(called(clash, work, [((0,), ((1, 0),))], ()), (0,))
            self.refused(HasRoom, clash, work, [((0,), ((1, 0),))], (0,))

    def test_ten_parts(self):
        for ring in (2, 5):
            work = (ring, 1, [("not", line) for line in range(10)])
            looks = [((0,), ((5, 0), (10, 0)))]
            self.assertEqual(called(clash, work, looks, ()), (5, 6, 7, 8, 9))
            self.assertEqual(called(clash, work, looks, (5, 6, 7)), (0, 1, 2, 3, 4))
            self.refused(HasRoom, clash, work, looks, tuple(range(10)))

    def test_all_sets_of_ordinary_works(self):
        told_any = 0
        for work, looks in small_works_and_looks(37, 40):
            known = set(slow_all_clashes(work, looks))
            for broken in all_sets(work):
                expected = slow_clash(work, known, broken)
                if expected is None:
                    self.refused(HasRoom, clash, work, looks, broken)
                else:
                    self.assertEqual(called(clash, work, looks, broken), expected, (work, looks, broken))
                    told_any += 1
        self.assertGreater(told_any, 100)

    def test_the_told_clash_is_a_least_one_apart_from_the_set(self):
        for work, looks in small_works_and_looks(41, 30):
            least = clashes(work, looks)
            for broken in all_sets(work)[:40]:
                if rooms(work, looks, broken) is None:
                    told = clash(work, looks, broken)
                    self.assertIn(told, least)
                    self.assertFalse(set(told) & set(broken))

    def test_a_set_that_leaves_room_is_refused(self):
        self.refused(HasRoom, clash, small_work(), [ODD], (1,))
        self.refused(HasRoom, clash, small_work(), [ODD], (0, 3))
        self.refused(HasRoom, clash, small_work(), [EVEN], ())
        for work in sample_works():
            everything = tuple(range(len(work[2])))
            for broken in ((), (0,), everything):
                self.refused(HasRoom, clash, work, [], broken)
            looks = some_looks(work, random.Random(43).randrange)
            self.refused(HasRoom, clash, work, looks, everything)

    def test_what_is_no_set_is_refused(self):
        work = small_work()
        for looks in ([], [EVEN], [ODD], [ODD, ODD_SUM]):
            self.all_refused(BadSet, lambda thing: clash(work, looks, thing), wrong_sets(work))

    def test_nothing_handed_in_is_kept(self):
        work = small_work()
        looks = [ODD]
        first = clash(work, looks, ())
        looks[0] = ODD_SUM
        self.assertEqual(first, (1, 2, 3))
        self.assertEqual(clash(work, looks, ()), (0,))
        work[2][0] = ("stop", 0, 1)
        self.refused(BadSet, clash, work, looks, (4,))
        self.assertEqual(clash(work, looks, ()), (0,))
        work[2][0] = ("not", 0)
        self.refused(HasRoom, clash, work, looks, ())


class ClashesTest(unittest.TestCase):

    def test_none_where_the_empty_set_leaves_room(self):
        for work in sample_works():
            self.assertEqual(called(clashes, work, []), [])
            self.assertEqual(called(clashes, work, [((0,) * work[1], ())]), [])
        self.assertEqual(called(clashes, small_work(), [EVEN, EVEN]), [])

    def test_one_look_and_several(self):
        self.assertEqual(called(clashes, small_work(), [ODD]), [(1, 2, 3)])
        self.assertEqual(called(clashes, small_work(), [ODD, ODD_SUM]), [(0,), (1, 2, 3)])
        self.assertEqual(called(clashes, small_work(), [ODD_SUM, EVEN, ODD, ODD]), [(0,), (1, 2, 3)])

    def test_as_many_parts_as_python_orders_tuples(self):
        work = (2, 1, [("not", 0), ("not", 0), ("sum", 1, 2), ("not", 0)])
        looks = [((0,), ((1, 1), (3, 1))), ((0,), ((2, 1), (3, 1), (4, 0)))]
        self.assertEqual(called(clashes, work, looks), [(3,), (0, 2), (1, 2)])

    def test_a_clash_of_all_parts(self):
        for ring in (2, 5):
            work = (ring, 1, [("not", line) for line in range(10)])
            self.assertEqual(called(clashes, work, [((0,), ((10, ring - 1),))]), [tuple(range(10))])

    def test_a_clash_of_each_part_alone(self):
        for ring in (2, 5):
            work = (ring, 1, [("not", 0)] * 10)
            seen = tuple((line, 0) for line in range(1, 11))
            self.assertEqual(called(clashes, work, [((0,), seen)]), [(number,) for number in range(10)])

    def test_one_part(self):
        for ring in (2, 5):
            work = (ring, 1, [("not", 0)])
            self.assertEqual(called(clashes, work, [((0,), ((1, ring - 1),))]), [])
            self.assertEqual(called(clashes, work, [((0,), ((1, 0),))]), [(0,)])

    def test_all_sets_and_digits_of_ordinary_works(self):
        lengths = set()
        for work, looks in small_works_and_looks(47, 120):
            told = called(clashes, work, looks)
            self.assertEqual(told, slow_least(slow_all_clashes(work, looks)), (work, looks))
            self.assertEqual(told, in_order(told))
            lengths.update(len(each) for each in told)
        self.assertLessEqual({1, 2, 3}, lengths)

    def test_no_part_can_be_left_out(self):
        for work, looks in small_works_and_looks(53, 30):
            for told in clashes(work, looks):
                self.assertIsNone(rooms(work, looks, rest_of(work, told)))
                for fewer in one_fewer(told):
                    self.assertIsNotNone(rooms(work, looks, rest_of(work, fewer)))

    def test_each_least_set_meets_each_least_clash(self):
        for work, looks in small_works_and_looks(59, 60):
            for broken in least_sets(work, looks):
                for told in clashes(work, looks):
                    self.assertTrue(set(broken) & set(told))

    def test_a_set_leaves_room_just_where_it_meets_every_clash(self):
        for work, looks in small_works_and_looks(61, 40):
            told = clashes(work, looks)
            leaving = slow_leaving(work, looks)
            for broken in all_sets(work):
                self.assertEqual(all(set(broken) & set(each) for each in told), broken in leaving)

    def test_an_answer_is_a_list_of_tuples_of_whole_numbers(self):
        for looks in ([], [ODD], [ODD, ODD_SUM]):
            told = clashes(small_work(), looks)
            self.assertIs(told.__class__, list)
            self.assertLessEqual({each.__class__ for each in told}, {tuple})
            self.assertLessEqual({number.__class__ for each in told for number in each}, {int})
        self.assertIs(clash(small_work(), [ODD], ()).__class__, tuple)

    def test_an_answer_is_the_askers_own(self):
        for looks, expected in (([], []), ([ODD], [(1, 2, 3)])):
            first = clashes(small_work(), looks)
            first.append((0,))
            self.assertEqual(clashes(small_work(), looks), expected)
            self.assertEqual(least_sets(small_work(), [ODD]), [(1,), (2,), (3,)])

    def test_nothing_handed_in_is_kept(self):
        work = small_work()
        looks = [ODD]
        first = clashes(work, looks)
        looks.append(ODD_SUM)
        self.assertEqual(first, [(1, 2, 3)])
        self.assertEqual(clashes(work, looks), [(0,), (1, 2, 3)])
        work[2][3] = ("sum", 2, 2)
        self.assertEqual(clashes(work, [ODD]), [(0, 3)])


if __name__ == "__main__":
    unittest.main()
