"""The promises 1, 2, 12 and 13 as whichbroke.searching keeps them."""

import random
import unittest
from copy import deepcopy

from tests.opinion import slow_least_sets, slow_next_line
from tests.refusing import RefusingTest
from tests.samples import (FOREIGN, NO_NUMBERS, all_sets, called, random_work, sample_works, small_work, some_looks,
                           wrong_givens, wrong_looks, wrong_works)
from whichbroke.errors import BadLook, BadWork, NoLook, WorkError
from whichbroke.rooms import rooms
from whichbroke.searching import Search

# At the small work, these inputs and this digit of line 5 clash with all parts whole.
ODD = ((1, 2), ((5, 2),))
EVEN = ((1, 2), ((5, 0),))


def search_of(work, looks):
    """A new search with these looks."""
    search = Search(work)
    for given, seen in looks:
        search.look(given, seen)
    return search


class SearchTest(RefusingTest):

    def tells(self, search, work, looks):
        """The search tells what a new one with these looks would tell, and what the second opinion does."""
        self.assertEqual(search.looks(), looks)
        self.assertEqual(search.sets(), slow_least_sets(work, looks))
        fresh = search_of(work, looks)
        self.assertEqual(search.sets(), fresh.sets())
        for number in range(len(looks)):
            told = called(search.next_line, number)
            self.assertEqual(told, slow_next_line(work, looks, number), (work, looks, number))
            self.assertEqual(told, fresh.next_line(number))
        for number in (-1, len(looks), len(looks) + 1):
            self.refused(NoLook, search.next_line, number)

    def all_refused_unchanged(self, search, error, call, things):
        """The call raises just this error for each of the things, and the search stands as it did."""
        looks, sets = search.looks(), search.sets()
        for at, thing in enumerate(things):
            with self.subTest(at=at):
                self.refused(error, call, thing)
                self.assertEqual(search.looks(), looks)
        self.assertEqual(search.sets(), sets)


class MakingTest(SearchTest):

    def test_it_begins_without_looks(self):
        for work in sample_works():
            search = called(Search, work)
            self.assertEqual(search.looks(), [])
            self.assertEqual(search.sets(), [()])
            self.refused(NoLook, search.back)
            self.refused(NoLook, search.next_line, 0)

    def test_what_is_no_work_is_refused(self):
        self.all_refused(BadWork, Search, wrong_works())

    def test_it_goes_on_where_the_list_of_parts_is_changed(self):
        for change in (list.clear, list.reverse, list.pop, lambda parts: parts.append(0),
                       lambda parts: parts.__setitem__(3, ("sum", 0, 0)), lambda parts: parts.extend(parts)):
            work = small_work()
            search = Search(work)
            search.look(*ODD)
            change(work[2])
            self.tells(search, small_work(), [ODD])
            search.look(*EVEN)
            search.see(1, 3, 0)
            self.tells(search, small_work(), [ODD, ((1, 2), ((3, 0), (5, 0)))])

    def test_the_list_of_parts_stands_unchanged(self):
        work = small_work()
        search = search_of(work, [ODD, EVEN])
        search.see(0, 3, 0)
        search.sets()
        search.next_line(1)
        search.back()
        self.assertEqual(work, small_work())

    def test_two_searches_in_one_work_are_apart(self):
        work = small_work()
        first, second = Search(work), Search(work)
        first.look(*ODD)
        self.assertEqual(second.looks(), [])
        self.assertEqual(second.sets(), [()])
        second.look(*EVEN)
        self.tells(first, work, [ODD])
        self.tells(second, work, [EVEN])


class LookTest(SearchTest):

    def test_one_look_more(self):
        search = Search(small_work())
        self.assertIsNone(called(search.look, *ODD))
        self.tells(search, small_work(), [ODD])
        self.assertIsNone(called(search.look, (0, 0), ()))
        self.tells(search, small_work(), [ODD, ((0, 0), ())])
        self.assertIsNone(called(search.look, *ODD))
        self.tells(search, small_work(), [ODD, ((0, 0), ()), ODD])

    def test_what_is_no_look_is_refused(self):
        for work in (small_work(), sample_works()[3]):
            given = (0,) * work[1]
            for looks in ([], [(given, ()), (given, ((work[1], 0),))]):
                search = search_of(work, looks)
                wrong = [look for look in wrong_looks(work) if look.__class__ is tuple and len(look) == 2]
                self.all_refused_unchanged(search, BadLook, lambda look: search.look(*look), wrong)

    def test_wrong_inputs_are_a_bad_look(self):
        work = small_work()
        search = search_of(work, [ODD])
        self.all_refused_unchanged(search, BadLook, lambda given: search.look(given, ()), wrong_givens(work))
        self.all_refused_unchanged(search, BadLook, lambda given: search.look(given, None), wrong_givens(work))

    def test_a_look_is_told_as_tuples(self):
        search = search_of(small_work(), [EVEN])
        search.see(0, 2, 1)
        (given, seen), = search.looks()
        self.assertIs(search.looks()[0].__class__, tuple)
        self.assertEqual({each.__class__ for each in (given, seen, *seen)}, {tuple})


class SeeTest(SearchTest):

    def test_a_line_ahead_of_between_and_behind_those_seen(self):
        given = (1, 2)
        for line, seen in ((2, ((2, 1), (3, 0), (5, 2))), (4, ((3, 0), (4, 1), (5, 2)))):
            search = search_of(small_work(), [EVEN, (given, ((3, 0), (5, 2)))])
            self.assertIsNone(called(search.see, 1, line, 1))
            self.tells(search, small_work(), [EVEN, (given, seen)])
        search = search_of(small_work(), [(given, ((2, 1), (3, 0))), EVEN])
        self.assertIsNone(called(search.see, 0, 5, 2))
        self.tells(search, small_work(), [(given, ((2, 1), (3, 0), (5, 2))), EVEN])

    def test_all_lines_in_any_order(self):
        chance = random.Random(67)
        for _ in range(10):
            search = search_of(small_work(), [((1, 2), ())])
            pairs = [(line, chance.randrange(3)) for line in range(2, 6)]
            for line, digit in chance.sample(pairs, 4):
                search.see(0, line, digit)
            self.tells(search, small_work(), [((1, 2), tuple(pairs))])
            self.all_refused_unchanged(search, BadLook, lambda line: search.see(0, line, 0), range(2, 6))

    def test_the_last_line_of_ten_parts(self):
        for ring in (2, 5):
            work = (ring, 1, [("not", line) for line in range(10)])
            search = search_of(work, [((0,), ())])
            search.see(0, 10, ring - 1)
            self.assertEqual(search.looks(), [((0,), ((10, ring - 1),))])
            self.assertEqual(search.sets(), [(number,) for number in range(10)])
            search.see(0, 5, ring - 1)
            self.assertEqual(search.looks(), [((0,), ((5, ring - 1), (10, ring - 1)))])
            self.assertEqual(search.sets(), [(number,) for number in range(5, 10)])

    def test_what_is_no_number_of_a_look_is_refused(self):
        for looks in ([], [ODD], [ODD, EVEN]):
            search = search_of(small_work(), looks)
            wrong = NO_NUMBERS + [len(looks), len(looks) + 1]
            self.all_refused_unchanged(search, NoLook, lambda number: search.see(number, 2, 0), wrong)
            self.all_refused_unchanged(search, NoLook, lambda number: search.see(number, None, None), wrong)

    def test_what_is_no_line_of_a_part_is_refused(self):
        search = search_of(small_work(), [ODD, EVEN])
        for number in (0, 1):
            wrong = NO_NUMBERS + [0, 1, 6, 7]
            self.all_refused_unchanged(search, BadLook, lambda line: search.see(number, line, 0), wrong)

    def test_a_line_that_is_seen_there_already_is_refused(self):
        search = search_of(small_work(), [ODD, ((1, 2), ((2, 0), (4, 2)))])
        for number, line in ((0, 5), (1, 2), (1, 4)):
            # The digit that is seen there is refused, too.
            self.all_refused_unchanged(search, BadLook, lambda digit: search.see(number, line, digit), range(3))
        search.see(0, 2, 0)
        self.all_refused_unchanged(search, BadLook, lambda digit: search.see(0, 2, digit), range(3))
        search.see(1, 5, 2)
        self.tells(search, small_work(), [((1, 2), ((2, 0), (5, 2))), ((1, 2), ((2, 0), (4, 2), (5, 2)))])

    def test_what_is_no_digit_is_refused(self):
        search = search_of(small_work(), [ODD])
        self.all_refused_unchanged(search, BadLook, lambda digit: search.see(0, 2, digit), NO_NUMBERS + [3, 4])
        self.all_refused_unchanged(search, BadLook, lambda digit: search.see(0, 5, digit), NO_NUMBERS + [3, 4])

    def test_the_number_is_refused_ahead_of_the_line(self):
        search = search_of(small_work(), [ODD])
        self.refused(NoLook, search.see, 1, 5, 0)
        self.refused(NoLook, search.see, -1, 0, 9)
        self.refused(BadLook, search.see, 0, 0, 9)


class BackTest(SearchTest):

    def test_the_last_look_with_all_lines_seen_at_it(self):
        search = search_of(small_work(), [EVEN, ((0, 0), ((4, 1),))])
        search.see(1, 5, 1)
        search.see(1, 2, 2)
        self.assertEqual(search.back(), ((0, 0), ((2, 2), (4, 1), (5, 1))))
        self.tells(search, small_work(), [EVEN])
        self.assertEqual(search.back(), EVEN)
        self.tells(search, small_work(), [])

    def test_without_looks_it_is_refused(self):
        search = Search(small_work())
        self.refused(NoLook, search.back)
        self.tells(search, small_work(), [])
        search.look(*ODD)
        search.back()
        self.refused(NoLook, search.back)
        self.tells(search, small_work(), [])
        search.look(*ODD)
        self.tells(search, small_work(), [ODD])

    def test_a_look_behind_a_taking_back(self):
        search = search_of(small_work(), [EVEN, ODD])
        search.see(1, 3, 1)
        search.back()
        search.look(*ODD)
        self.tells(search, small_work(), [EVEN, ODD])
        search.see(1, 3, 0)
        self.tells(search, small_work(), [EVEN, ((1, 2), ((3, 0), (5, 2)))])
        search.back()
        search.look((0, 0), ((2, 2),))
        self.tells(search, small_work(), [EVEN, ((0, 0), ((2, 2),))])
        self.assertEqual(search.sets(), [(0,)])

    def test_a_taken_back_number_is_no_number_of_a_look(self):
        search = search_of(small_work(), [EVEN, ODD])
        search.back()
        self.refused(NoLook, search.next_line, 1)
        self.refused(NoLook, search.see, 1, 2, 0)


class NextLineTest(SearchTest):

    def test_the_least_load_and_of_several_the_first(self):
        # Line 3 shows 1 and 2 with part 1 broken, else 0; line 4 shows 0, 0 and 2; all show one digit on 2 and 5.
        self.assertEqual(called(search_of(small_work(), [ODD]).next_line, 0), (3, 2))

    def test_a_line_that_parts_the_sets_well(self):
        work = (2, 1, [("not", line) for line in range(10)])
        search = search_of(work, [((0,), ((10, 1),))])
        self.assertEqual(search.next_line(0), (5, 5))
        search.see(0, 5, 1)
        self.assertEqual(search.sets(), [(number,) for number in range(5, 10)])
        self.assertEqual(search.next_line(0), (7, 3))

    def test_where_all_loads_are_alike_the_first_line_is_told(self):
        search = search_of(small_work(), [EVEN])
        self.assertEqual(called(search.next_line, 0), (2, 1))
        search.see(0, 2, 0)
        self.assertEqual(called(search.next_line, 0), (2, 1))
        search = search_of((3, 6, [("not", 0)]), [((0,) * 6, ((6, 0),))])
        self.assertEqual(called(search.next_line, 0), (6, 1))

    def test_each_of_several_looks(self):
        looks = [EVEN, ODD, ((0, 0), ()), ((2, 0), ((4, 1),))]
        search = search_of(small_work(), looks)
        for number in range(4):
            self.assertEqual(called(search.next_line, number), slow_next_line(small_work(), looks, number))

    def test_an_answer_is_a_tuple_of_whole_numbers(self):
        told = search_of(small_work(), [ODD]).next_line(0)
        self.assertIs(told.__class__, tuple)
        self.assertEqual([each.__class__ for each in told], [int, int])

    def test_what_is_no_number_of_a_look_is_refused(self):
        for looks in ([], [ODD], [ODD, EVEN]):
            search = search_of(small_work(), looks)
            wrong = NO_NUMBERS + [len(looks), len(looks) + 1]
            self.all_refused_unchanged(search, NoLook, search.next_line, wrong)


class WholeSearchTest(SearchTest):

    def step(self, chance, search, work, looks):
        """One step of a search, done to the list of its looks, too."""
        kind = chance.randrange(6)
        if kind < 2 and len(looks) < 4:
            given, seen = chance.choice(some_looks(work, chance.randrange))
            search.look(given, seen)
            looks.append((given, seen))
        elif kind == 2:
            if looks:
                self.assertEqual(search.back(), looks.pop())
            else:
                self.refused(NoLook, search.back)
        elif kind == 3:
            for call in (lambda: search.look(None, ()), lambda: search.see(len(looks), work[1], 0),
                         lambda: search.see(len(looks) - 1, 0, 0), lambda: search.next_line(-1)):
                self.assertRaises(WorkError, call)
        elif looks:
            self.see_one(chance, search, work, looks)

    def see_one(self, chance, search, work, looks):
        """A line more is seen, or refused where it is seen already."""
        number = chance.randrange(len(looks))
        given, seen = looks[number]
        line, digit = work[1] + chance.randrange(len(work[2])), chance.randrange(work[0])
        if line in dict(seen):
            self.refused(BadLook, search.see, number, line, digit)
        else:
            self.assertIsNone(search.see(number, line, digit))
            looks[number] = (given, tuple(sorted(seen + ((line, digit),))))

    def test_what_it_tells_is_what_a_new_search_would_tell(self):
        chance = random.Random(71)
        works = sample_works()[:8] + [random_work(chance) for _ in range(25)]
        for work in works:
            search, looks = Search(work), []
            for _ in range(12):
                self.step(chance, search, work, looks)
                if work[0] ** len(work[2]) <= 256:
                    self.tells(search, work, looks)
            self.tells(search, work, looks)

    def test_further_looks_and_lines_leave_less_room(self):
        chance = random.Random(73)
        for _ in range(25):
            work = random_work(chance)
            search, looks = search_of(work, []), []
            for _ in range(6):
                ahead = search.sets()
                refused = [broken for broken in all_sets(work) if rooms(work, looks, broken) is None]
                if looks and chance.randrange(2):
                    self.see_one(chance, search, work, looks)
                else:
                    looks.append(chance.choice(some_looks(work, chance.randrange)))
                    search.look(*looks[-1])
                for behind in search.sets():
                    self.assertTrue(any(set(each) <= set(behind) for each in ahead))
                    self.assertNotIn(behind, refused)
                for broken in refused:
                    self.assertIsNone(rooms(work, search.looks(), broken))

    def test_only_a_large_set_and_every_part_whole(self):
        for ring in (2, 5):
            for many in (1, 10):
                work = (ring, 1, [("not", 0)] * many)
                search = search_of(work, [((0,), ())])
                self.assertEqual(search.sets(), [()])
                for number in reversed(range(many)):
                    search.see(0, number + 1, 0)
                    self.assertEqual(search.sets(), [tuple(range(number, many))])
                self.assertEqual(search.next_line(0), (1, 1))
                search.back()
                self.assertEqual(search.sets(), [()])

    def test_answers_are_the_askers_own(self):
        search = search_of(small_work(), [ODD, EVEN])
        for ask in (search.looks, search.sets):
            expected = deepcopy(ask())
            first = ask()
            first.append(None)
            first[0] = None
            self.assertEqual(ask(), expected)
            first.clear()
            self.assertEqual(ask(), expected)
        self.tells(search, small_work(), [ODD, EVEN])

    def test_nothing_done_later_changes_an_answer(self):
        search = search_of(small_work(), [ODD, EVEN])
        looks, sets, next_line = search.looks(), search.sets(), search.next_line(0)
        search.see(0, 3, 1)
        taken = search.back()
        search.look((0, 0), ((2, 2),))
        search.see(1, 5, 0)
        self.assertEqual(looks, [ODD, EVEN])
        self.assertEqual(sets, [(1,), (2,), (3,)])
        self.assertEqual(next_line, (3, 2))
        self.assertEqual(taken, EVEN)

    def test_things_of_any_kind_in_every_place(self):
        search = search_of(small_work(), [ODD])
        self.all_refused_unchanged(search, BadLook, lambda thing: search.look(thing, thing), FOREIGN)
        self.all_refused_unchanged(search, NoLook, lambda thing: search.see(thing, thing, thing), FOREIGN)
        self.all_refused_unchanged(search, BadLook, lambda thing: search.see(0, thing, thing), FOREIGN)


if __name__ == "__main__":
    unittest.main()
