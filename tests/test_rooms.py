"""The promises 1, 5, 6, 7 and 11 as whichbroke.rooms keeps them."""

import random
import unittest

from tests.refusing import RefusingTest
from tests.samples import (all_sets, called, random_work, sample_works, slow_rows, small_work, some_looks, wrong_lines,
                           wrong_looks, wrong_sets)
from whichbroke.errors import BadLook, BadSet, NoLine
from whichbroke.rooms import room, rooms, shown

# At the small work, these inputs and this digit of line 5 clash with all parts whole.
ODD = ((1, 2), ((5, 2),))
EVEN = ((1, 2), ((5, 0),))


class RoomTest(RefusingTest):

    def test_all_whole_is_the_run_or_none(self):
        self.assertEqual(called(room, small_work(), EVEN, ()), (1, 2, 0, 0, 2, 0))
        self.assertIsNone(called(room, small_work(), ODD, ()))

    def test_a_broken_part_gives_any_digit(self):
        self.assertEqual(called(room, small_work(), ODD, (3,)), (1, 2, 0, 0, 2, 2))
        self.assertEqual(called(room, small_work(), ODD, (2,)), (1, 2, 0, 0, 0, 2))
        self.assertEqual(called(room, small_work(), ODD, (1,)), (1, 2, 0, 1, 0, 2))

    def test_a_part_behind_goes_by_what_a_broken_one_gives(self):
        self.assertIsNone(called(room, small_work(), ODD, (0,)))
        self.assertEqual(called(room, small_work(), ((1, 2), ((4, 1),)), (0, 1)), (1, 2, 1, 1, 1, 1))

    def test_the_least_at_the_first_unlike_line_is_told(self):
        # Least at line 2 wins, though line 3 could be less with another digit there.
        work = (2, 1, [("not", 0), ("not", 1), ("sum", 1, 2)])
        self.assertEqual(room(work, ((0,), ((3, 1),)), (0, 1)), (0, 0, 1, 1))
        work = (3, 1, [("not", 0), ("sum", 1, 0), ("not", 2)])
        self.assertEqual(room(work, ((2,), ((3, 2),)), (0, 1, 2)), (2, 0, 0, 2))

    def test_a_seen_part_that_is_whole_does_as_it_should(self):
        work = (2, 1, [("not", 0)])
        self.assertEqual(room(work, ((0,), ((1, 1),)), ()), (0, 1))
        self.assertIsNone(room(work, ((0,), ((1, 0),)), ()))
        self.assertEqual(room(work, ((0,), ((1, 0),)), (0,)), (0, 0))

    def test_the_set_of_all_parts_leaves_room_for_any_look(self):
        for work in sample_works():
            ring, inputs, parts = work
            everything = tuple(range(len(parts)))
            given = (ring - 1,) * inputs
            digits = tuple((3 * number + 1) % ring for number in range(len(parts)))
            seen = tuple((inputs + number, digit) for number, digit in enumerate(digits))
            self.assertEqual(called(room, work, (given, seen), everything), given + digits)
            self.assertEqual(called(room, work, (given, ()), everything), given + (0,) * len(parts))

    def test_no_line_seen_leaves_room_with_any_set(self):
        for work in sample_works():
            look = ((0,) * work[1], ())
            for broken in all_sets(work)[:60]:
                self.assertIsNotNone(room(work, look, broken))

    def test_one_part_that_takes_a_line_more_than_once(self):
        work = (5, 1, [("sum", 0, 0)])
        self.assertEqual(room(work, ((4,), ((1, 3),)), ()), (4, 3))
        work = (3, 1, [("not", 0), ("pick", 1, 1, 1)])
        self.assertEqual(room(work, ((0,), ((2, 1),)), (0,)), (0, 1, 1))
        work = (3, 1, [("not", 0), ("stop", 1, 1)])
        self.assertIsNone(room(work, ((0,), ((2, 1),)), (0,)))

    def test_ten_parts_of_ring_5_of_which_many_are_broken(self):
        free = [("not", 0)] * 7
        work = (5, 6, free + [("pick", 6, 7, 8), ("pick", 9, 10, 11), ("sum", 12, 12)])
        look = ((4,) * 6, ((13, 4), (14, 3), (15, 2)))
        self.assertEqual(room(work, look, tuple(range(7))), (4,) * 6 + (0, 4, 0, 0, 3, 0, 1, 4, 3, 2))
        self.assertEqual(shown(work, look, tuple(range(7)), 12), [1])
        self.assertEqual(shown(work, look, tuple(range(7)), 11), [0, 1, 2, 3, 4])

    def test_all_sets_of_sample_works(self):
        chance = random.Random(7)
        for work in sample_works()[:8]:
            for look in some_looks(work, chance.randrange):
                for broken in all_sets(work):
                    fitting = slow_rows(work, look, broken)
                    self.assertEqual(called(room, work, look, broken), fitting[0] if fitting else None)

    def test_ordinary_works(self):
        chance = random.Random(11)
        for _ in range(150):
            work = random_work(chance)
            for look in some_looks(work, chance.randrange):
                broken = chance.choice(all_sets(work))
                fitting = slow_rows(work, look, broken)
                told = called(room, work, look, broken)
                self.assertEqual(told, fitting[0] if fitting else None, (work, look, broken))
                self.assertIn(told.__class__, (tuple, None.__class__))

    def test_what_is_no_look_is_refused(self):
        work = small_work()
        self.all_refused(BadLook, lambda thing: room(work, thing, (0,)), wrong_looks(work))

    def test_what_is_no_set_is_refused(self):
        work = small_work()
        self.all_refused(BadSet, lambda thing: room(work, EVEN, thing), wrong_sets(work))

    def test_the_look_is_refused_ahead_of_the_set(self):
        self.refused(BadLook, room, small_work(), None, None)
        self.refused(BadLook, room, small_work(), ((0, 3), ()), (9,))

    def test_nothing_handed_in_is_kept(self):
        work = small_work()
        self.assertEqual(room(work, EVEN, ()), (1, 2, 0, 0, 2, 0))
        work[2][3] = ("sum", 4, 4)
        self.assertIsNone(room(work, EVEN, ()))
        self.assertEqual(room(work, ((1, 2), ((5, 1),)), ()), (1, 2, 0, 0, 2, 1))


class RoomsTest(RefusingTest):

    def test_no_looks(self):
        for work in sample_works():
            for broken in ((), (0,), tuple(range(len(work[2])))):
                self.assertEqual(called(rooms, work, [], broken), [])

    def test_one_room_for_each_look_in_order(self):
        looks = [ODD, EVEN, ((0, 0), ()), ODD]
        self.assertEqual(called(rooms, small_work(), looks, (1,)),
                         [(1, 2, 0, 1, 0, 2), (1, 2, 0, 0, 2, 0), (0, 0, 0, 0, 0, 2), (1, 2, 0, 1, 0, 2)])

    def test_none_where_one_look_has_no_room(self):
        for looks in ([ODD], [ODD, EVEN], [EVEN, ODD], [EVEN, ODD, EVEN]):
            self.assertIsNone(called(rooms, small_work(), looks, ()))
        self.assertEqual(rooms(small_work(), [EVEN], ()), [(1, 2, 0, 0, 2, 0)])

    def test_broken_parts_give_others_at_each_look(self):
        work = (2, 1, [("not", 0)])
        self.assertEqual(rooms(work, [((0,), ((1, 0),)), ((0,), ((1, 1),))], (0,)), [(0, 0), (0, 1)])

    def test_the_set_of_all_parts_leaves_room_for_any_looks(self):
        chance = random.Random(3)
        for work in sample_works():
            looks = some_looks(work, chance.randrange)
            self.assertEqual(len(called(rooms, work, looks, tuple(range(len(work[2]))))), len(looks))

    def test_ordinary_works(self):
        chance = random.Random(5)
        for _ in range(60):
            work = random_work(chance)
            looks = some_looks(work, chance.randrange)[:chance.randint(1, 3)]
            broken = chance.choice(all_sets(work))
            fitting = [slow_rows(work, look, broken) for look in looks]
            expected = [rows[0] for rows in fitting] if all(fitting) else None
            self.assertEqual(called(rooms, work, looks, broken), expected, (work, looks, broken))

    def test_what_is_no_set_is_refused_without_looks_too(self):
        work = small_work()
        for looks in ([], [EVEN], [ODD, EVEN]):
            self.all_refused(BadSet, lambda thing: rooms(work, looks, thing), wrong_sets(work))

    def test_an_answer_is_the_askers_own(self):
        looks = [EVEN, EVEN]
        first = rooms(small_work(), looks, ())
        first.append(ODD)
        first[0] = None
        self.assertEqual(rooms(small_work(), looks, ()), [(1, 2, 0, 0, 2, 0)] * 2)
        self.assertEqual(looks, [EVEN, EVEN])
        empty = rooms(small_work(), [], ())
        empty.append(1)
        self.assertEqual(rooms(small_work(), [], ()), [])

    def test_nothing_handed_in_is_kept(self):
        looks = [EVEN]
        first = rooms(small_work(), looks, ())
        looks.append(ODD)
        self.assertEqual(first, [(1, 2, 0, 0, 2, 0)])
        self.assertIsNone(rooms(small_work(), looks, ()))


class ShownTest(RefusingTest):

    def test_a_broken_part_shows_what_leaves_room(self):
        self.assertEqual(called(shown, small_work(), ODD, (1,), 3), [1, 2])
        self.assertEqual(called(shown, small_work(), ODD, (1,), 4), [0])
        self.assertEqual(called(shown, small_work(), ODD, (0, 1), 2), [0])
        self.assertEqual(called(shown, small_work(), EVEN, (0, 1), 2), [0, 1, 2])

    def test_an_input_line_shows_its_digit(self):
        self.assertEqual(called(shown, small_work(), ODD, (1,), 0), [1])
        self.assertEqual(called(shown, small_work(), ODD, (1,), 1), [2])

    def test_a_seen_line_shows_what_is_seen(self):
        self.assertEqual(called(shown, small_work(), ODD, (1,), 5), [2])
        self.assertEqual(called(shown, small_work(), ODD, (0, 1, 2, 3), 5), [2])

    def test_none_without_room(self):
        for line in range(6):
            self.assertEqual(called(shown, small_work(), ODD, (), line), [])
            self.assertEqual(called(shown, small_work(), ODD, (0,), line), [])

    def test_all_digits_where_nothing_hangs_on_the_line(self):
        self.assertEqual(called(shown, small_work(), ((1, 2), ()), (3,), 5), [0, 1, 2])
        for ring in (2, 5):
            self.assertEqual(shown((ring, 1, [("not", 0)]), ((0,), ()), (0,), 1), list(range(ring)))

    def test_a_line_behind_a_broken_part(self):
        work = (3, 1, [("not", 0), ("stop", 0, 1), ("not", 2)])
        self.assertEqual(shown(work, ((1,), ()), (0,), 2), [0, 1])
        self.assertEqual(shown(work, ((1,), ()), (0,), 3), [1, 2])
        self.assertEqual(shown(work, ((1,), ((3, 1),)), (0,), 1), [0])

    def test_all_lines_of_sample_works(self):
        chance = random.Random(13)
        for work in sample_works()[:8]:
            for look in some_looks(work, chance.randrange)[1:4]:
                for broken in all_sets(work):
                    fitting = slow_rows(work, look, broken)
                    for line in range(work[1] + len(work[2])):
                        expected = sorted({row[line] for row in fitting})
                        self.assertEqual(called(shown, work, look, broken, line), expected)

    def test_ordinary_works(self):
        chance = random.Random(17)
        for _ in range(100):
            work = random_work(chance)
            look = chance.choice(some_looks(work, chance.randrange))
            broken = chance.choice(all_sets(work))
            fitting = slow_rows(work, look, broken)
            for line in range(work[1] + len(work[2])):
                expected = sorted({row[line] for row in fitting})
                self.assertEqual(called(shown, work, look, broken, line), expected, (work, look, broken, line))

    def test_what_is_no_look_is_refused(self):
        work = small_work()
        self.all_refused(BadLook, lambda thing: shown(work, thing, (0,), 2), wrong_looks(work))

    def test_what_is_no_set_is_refused(self):
        work = small_work()
        self.all_refused(BadSet, lambda thing: shown(work, EVEN, thing, 2), wrong_sets(work))

    def test_what_is_no_line_is_refused(self):
        for work in (small_work(), sample_works()[1], sample_works()[9]):
            look = ((0,) * work[1], ())
            self.all_refused(NoLine, lambda thing: shown(work, look, (0,), thing), wrong_lines(work))

    def test_no_line_is_refused_without_room_too(self):
        self.refused(NoLine, shown, small_work(), ODD, (), 6)

    def test_the_look_is_refused_ahead_of_the_set_and_that_ahead_of_the_line(self):
        self.refused(BadLook, shown, small_work(), None, None, None)
        self.refused(BadLook, shown, small_work(), ((0, 3), ()), (0,), 9)
        self.refused(BadSet, shown, small_work(), EVEN, None, None)
        self.refused(BadSet, shown, small_work(), EVEN, (4,), 6)

    def test_an_answer_is_the_askers_own(self):
        first = shown(small_work(), ODD, (1,), 3)
        first.append(9)
        self.assertEqual(shown(small_work(), ODD, (1,), 3), [1, 2])
        empty = shown(small_work(), ODD, (), 3)
        empty.append(9)
        self.assertEqual(shown(small_work(), ODD, (), 3), [])

    def test_nothing_handed_in_is_kept(self):
        work = small_work()
        first = shown(work, EVEN, (), 4)
        work[2][2] = ("sum", 0, 1)
        self.assertEqual(first, [2])
        self.assertEqual(shown(work, EVEN, (), 4), [])


if __name__ == "__main__":
    unittest.main()
