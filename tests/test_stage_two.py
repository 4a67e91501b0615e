"""Promise 2: places, sail, change and their refusals."""

import unittest

from sailpassage.water import Passage, answers, answers_about
from told import (
    GREATEST, STIRRED, CallCase, beginning, begins, boat, change, check, joined, places, sail, shoal, soonest, state,
    stirred, strong, winds)


class PlacesTest(CallCase):
    def test_sets_boat_and_mark(self):
        for cells in ((0, 3), (3, 0), (1, 2), (2, 1)):
            self.changes(places(*cells), 0, boat_cell=cells[0], mark_cell=cells[1])

    def test_the_two_cells_may_be_the_same(self):
        for cell in range(4):
            self.changes(places(cell, cell), 0, boat_cell=cell, mark_cell=cell)

    def test_no_such_cell(self):
        for cells in ((12, 0), (0, 12), (12, 12), (GREATEST, 0), (0, GREATEST), (16, 16)):
            self.refused(places(*cells), -2)
        self.assertEqual(self.told([places(4, 0), places(0, 4), places(3, 3)]), [[-2], [-2], [0]])

    def test_the_last_cell_of_every_water(self):
        for wide in (2, 3, 4):
            for high in (2, 3, 4):
                cells = wide * high
                calls = [begins(wide, high), places(cells - 1, 0), places(cells, 0), places(0, cells)]
                self.assertEqual(self.told(calls), [[0], [0], [-2], [-2]])

    def test_one_of_them_is_a_shoal(self):
        for cells in ((5, 0), (0, 5), (5, 5), (6, 5), (6, 11)):
            self.keeps(stirred(), places(*cells), [-3])

    def test_no_such_cell_is_told_ahead_of_a_shoal(self):
        for cells in ((5, 12), (12, 5), (6, GREATEST), (GREATEST, 6)):
            self.keeps(stirred(), places(*cells), [-2])

    def test_shoals_keep_off_where_boat_and_mark_are_then(self):
        calls = [places(1, 2), shoal(1), shoal(2), shoal(0), shoal(3), places(0, 1), places(1, 3), places(2, 1)]
        self.assertEqual(self.told(calls), [[0], [-3], [-3], [1], [2], [-3], [-3], [0]])

    def test_what_it_answers_is_seen_by_check(self):
        calls = [begins(3, 3), places(4, 2), check([]), places(9, 2), check([]), places(7, 7), check([]),
                 begins(3, 3), check([])]
        expected = [[0], [0], [0, 4, 0, 0], [-2], [0, 4, 0, 0], [0], [0, 7, 0, 0], [0], [0, 0, 0, 0]]
        self.assertEqual(self.told(calls), expected)

    def test_a_refused_one_keeps_the_boat_and_the_mark(self):
        calls = [begins(3, 3), places(4, 2), shoal(0), places(1, 9), places(0, 1), shoal(4), shoal(2), shoal(1)]
        self.assertEqual(self.told(calls), [[0], [0], [1], [-2], [-3], [-3], [-3], [2]])

    def test_begins_sets_them_back(self):
        calls = [begins(3, 3), places(4, 2), begins(3, 3), shoal(0), shoal(8), shoal(4), shoal(2)]
        self.assertEqual(self.told(calls), [[0], [0], [0], [-3], [-3], [1], [2]])


class SailTest(CallCase):
    def test_its_number_is_from_0_to_2(self):
        calls = [sail(0, 40, 0), sail(0, 40, 0), sail(5, 6, 7), sail(0, 0, 0)]
        self.assertEqual(self.told(calls), [[0], [1], [2], [-5]])

    def test_sets_the_one_sail(self):
        passage = stirred()
        before = state(passage)
        self.assertEqual(answers_about(passage, sail(7, 8, 9)), [1, 2])
        self.assertEqual(state(passage), {**before, "sails": before["sails"] + [(7, 8, 9)]})

    def test_least_and_greatest_strength(self):
        for least, greatest in ((0, 0), (0, 40), (40, 40), (39, 40), (20, 20)):
            self.assertEqual(answers(sail(least, greatest, 0)), [1, 0])
        for least, greatest in ((0, 41), (41, 41), (1, 0), (40, 39), (21, 20), (0, GREATEST), (GREATEST, 40),
                                (GREATEST, GREATEST), (GREATEST, 0)):
            self.refused(sail(least, greatest, 0), -1)

    def test_how_slow(self):
        for slow in (0, 1, 8, 9):
            self.assertEqual(answers(sail(0, 40, slow)), [1, 0])
        for slow in (10, 11, GREATEST):
            self.refused(sail(0, 40, slow), -1)

    def test_a_fourth_one(self):
        passage = stirred()
        self.assertEqual(answers_about(passage, sail(0, 1, 2)), [1, 2])
        for call in (sail(0, 40, 0), sail(0, 0, 9), sail(40, 40, 9)):
            self.keeps(passage, call, [-5])

    def test_its_own_numbers_are_told_ahead_of_the_fourth(self):
        passage = stirred()
        answers_about(passage, sail(0, 1, 2))
        for call in (sail(0, 41, 0), sail(2, 1, 0), sail(0, 40, 10), sail(GREATEST, GREATEST, GREATEST)):
            self.keeps(passage, call, [-1])

    def test_a_refused_one_takes_no_number(self):
        calls = [sail(0, 41, 0), sail(0, 40, 0), sail(1, 0, 0), sail(0, 40, 10), sail(0, 40, 9), check([])]
        self.assertEqual(self.told(calls), [[-1], [0], [-1], [-1], [1], [0, 0, 0, 2]])

    def test_begins_takes_them_away(self):
        calls = [sail(0, 40, 0)] * 3 + [begins(2, 2), check([]), soonest()] + [sail(0, 40, 0)] * 4
        self.assertEqual(self.told(calls), [[0], [1], [2], [0], [0, 0, 0, 0], [-6], [0], [1], [2], [-5]])

    def test_a_refused_begins_lets_them_be(self):
        self.assertEqual(self.told([sail(0, 40, 0), begins(5, 2), sail(0, 40, 0)]), [[0], [-1], [1]])


class ChangeTest(CallCase):
    def test_none_to_nine(self):
        for minutes in range(10):
            self.changes(change(minutes), 0, change_minutes=minutes)

    def test_above_nine(self):
        for minutes in (10, 11, 256, GREATEST):
            self.refused(change(minutes), -1)

    def test_is_seen_by_check(self):
        calls = [sail(0, 40, 0), change(9), change(10), check([3, 0]), begins(2, 2), sail(0, 40, 0), check([3, 0])]
        self.assertEqual(self.told(calls), [[0], [0], [-1], [10, 3, 1, 0], [0], [0], [1, 3, 1, 0]])


class BeginsSetsAllBackTest(CallCase):
    def test_behind_every_call(self):
        """What is asked behind begins is answered as about a new passage."""
        asked = [check([]), soonest(), sail(0, 40, 0), check([3, 0]), check([4, 0, 2, 0]), soonest(), shoal(1)]
        calls = STIRRED + [begins(2, 2)] + asked
        self.assertEqual(self.told(calls)[len(STIRRED) + 1:], self.told(asked))
        self.assertEqual(state(Passage()), beginning(2, 2))

    def test_a_stirred_passage_has_nothing_as_it_began(self):
        began = beginning(2, 2)
        self.assertEqual([name for name, value in state(stirred()).items() if value == began[name]], ["mark_cell"])
        self.assertNotEqual(stirred().mark_cell, beginning(4, 3)["mark_cell"])


class OrderTest(CallCase):
    def test_every_call_of_a_stirred_passage(self):
        calls = STIRRED + [sail(1, 1, 1), sail(1, 1, 1), change(0), places(0, 0), winds([]), strong([]),
                           boat(1, 1, 1, 1, 0), check([2, 1])]
        expected = [[2], [-5], [0], [0], [0], [0], [0], [1, 1, 1, 1]]
        self.assertEqual(self.told(calls)[len(STIRRED):], expected)
        self.assertEqual(answers(joined(calls)), answers(joined(calls)))


if __name__ == "__main__":
    unittest.main()
