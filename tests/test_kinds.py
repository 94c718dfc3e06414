"""The promise 1: things of any kind are refused by the class that is told, however that kind compares."""

import unittest

from tests.kinds import spoiled
from tests.refusing import RefusingTest
from tests.samples import small_work
from whichbroke.clashing import clash
from whichbroke.errors import BadGiven, BadLook, BadSet, BadWork, NoLine, NoLook
from whichbroke.rooms import room, rooms, shown
from whichbroke.running import ran
from whichbroke.searching import Search
from whichbroke.works import need_given, need_look, need_set, need_work

GIVEN = (1, 2)
SEEN = ((3, 1), (5, 2))
LOOK = (GIVEN, SEEN)


class KindsTest(RefusingTest):

    def test_what_is_spoiled_is_right_otherwise(self):
        self.assertIs(need_work(small_work()), True)
        self.assertIs(need_given(small_work(), GIVEN), True)
        self.assertIs(need_look(small_work(), LOOK), True)
        for broken in ((), (0,), (0, 2)):
            self.assertIs(need_set(small_work(), broken), True)

    def test_works(self):
        for call in (need_work, Search):
            self.all_refused(BadWork, call, spoiled(small_work()))

    def test_inputs(self):
        work = small_work()
        self.all_refused(BadGiven, lambda thing: need_given(work, thing), spoiled(GIVEN))
        self.all_refused(BadGiven, lambda thing: ran(work, thing, {}), spoiled(GIVEN))

    def test_looks(self):
        work = small_work()
        for look in ((GIVEN, ()), LOOK):
            self.all_refused(BadLook, lambda thing: need_look(work, thing), spoiled(look))
            self.all_refused(BadLook, lambda thing: room(work, thing, ()), spoiled(look))
            self.all_refused(BadLook, lambda thing: shown(work, thing, (), 2), spoiled(look))

    def test_sets(self):
        work = small_work()
        for broken in ((), (0,), (0, 2)):
            self.all_refused(BadSet, lambda thing: need_set(work, thing), spoiled(broken))
            self.all_refused(BadSet, lambda thing: room(work, LOOK, thing), spoiled(broken))
            self.all_refused(BadSet, lambda thing: shown(work, LOOK, thing, 2), spoiled(broken))
            for looks in ([], [LOOK]):
                self.all_refused(BadSet, lambda thing: rooms(work, looks, thing), spoiled(broken))
                self.all_refused(BadSet, lambda thing: clash(work, looks, thing), spoiled(broken))

    def test_lines(self):
        for line in (0, 5):
            self.all_refused(NoLine, lambda thing: shown(small_work(), LOOK, (), thing), spoiled(line))

    def test_searches(self):
        search = Search(small_work())
        search.look(*LOOK)
        self.all_refused(BadLook, lambda thing: search.look(thing, SEEN), spoiled(GIVEN))
        for seen in ((), SEEN):
            self.all_refused(BadLook, lambda thing: search.look(GIVEN, thing), spoiled(seen))
        self.all_refused(NoLook, lambda thing: search.see(thing, 2, 0), spoiled(0))
        self.all_refused(BadLook, lambda thing: search.see(0, thing, 0), spoiled(2))
        self.all_refused(BadLook, lambda thing: search.see(0, 2, thing), spoiled(0))
        self.all_refused(NoLook, search.next_line, spoiled(0))
        self.assertEqual(search.looks(), [LOOK])


if __name__ == "__main__":
    unittest.main()
