"""Promise 1: begins, shoal, winds, strong, boat and their refusals."""

import unittest

from sailpassage.water import Passage, answers, answers_about
from told import (
    GREATEST, STIRRED, CallCase, beginning, begins, boat, joined, places, shoal, state, stirred, strong, winds)


class BeginsTest(CallCase):
    def test_every_size_up_to_six(self):
        for wide in range(7):
            for high in range(7):
                fits = 2 <= wide <= 4 and 2 <= high <= 4
                with self.subTest(wide=wide, high=high):
                    self.assertEqual(answers(begins(wide, high)), [1, 0 if fits else -1])

    def test_sets_everything_as_told(self):
        for wide in (2, 3, 4):
            for high in (2, 3, 4):
                with self.subTest(wide=wide, high=high):
                    self.changes(begins(wide, high), 0, **beginning(wide, high))

    def test_refusals_leave_all_as_it_was(self):
        for size in ((1, 3), (3, 1), (5, 3), (3, 5), (0, 0), (1, 5), (0, 2), (2, 0), (GREATEST, 2), (2, GREATEST)):
            self.refused(begins(*size), -1)

    def test_a_new_passage_is_two_by_two(self):
        self.assertEqual(state(Passage()), beginning(2, 2))
        self.assertEqual(self.told([shoal(0), shoal(3), shoal(4), shoal(1), shoal(2)]), [[-3], [-3], [-2], [1], [2]])

    def test_takes_the_shoals_away(self):
        calls = [begins(4, 4), shoal(5), shoal(6), begins(4, 4), shoal(5), begins(2, 2), shoal(5), shoal(1)]
        self.assertEqual(self.told(calls), [[0], [1], [2], [0], [1], [0], [-2], [1]])

    def test_the_shoals_stay_behind_a_refusal(self):
        calls = [begins(3, 3), shoal(4), begins(3, 5), shoal(4), shoal(7), shoal(9)]
        self.assertEqual(self.told(calls), [[0], [1], [-1], [-4], [2], [-2]])

    def test_wide_and_high_make_the_last_cell(self):
        for wide in (2, 3, 4):
            for high in (2, 3, 4):
                last = wide * high - 1
                calls = [begins(wide, high), shoal(last + 1), shoal(last), shoal(last - 1), shoal(0), shoal(1)]
                with self.subTest(wide=wide, high=high):
                    self.assertEqual(self.told(calls), [[0], [-2], [-3], [1], [-3], [2]])


class ShoalTest(CallCase):
    def test_counts_every_cell_between_boat_and_mark(self):
        calls = [begins(4, 4)] + [shoal(cell) for cell in range(14, 0, -1)]
        self.assertEqual(self.told(calls), [[0]] + [[count] for count in range(1, 15)])

    def test_sets_the_one_cell(self):
        passage = stirred()
        before = state(passage)
        self.assertEqual(answers_about(passage, shoal(10)), [1, 3])
        self.assertEqual(state(passage), {**before, "shoals": {5: True, 6: True, 10: True}})

    def test_no_such_cell(self):
        for cell in (12, 13, 16, 4096, GREATEST):
            self.refused(shoal(cell), -2)
        self.assertEqual(self.told([shoal(4), shoal(GREATEST)]), [[-2], [-2]])

    def test_the_boat_or_the_mark_is_there(self):
        for passage, boat_cell, mark_cell in ((Passage(), 0, 3), (stirred(), 8, 3)):
            self.keeps(passage, shoal(boat_cell), [-3])
            self.keeps(passage, shoal(mark_cell), [-3])

    def test_looks_for_boat_and_mark_where_they_are(self):
        self.assertEqual(self.told(STIRRED + [shoal(0), shoal(11)])[-2:], [[3], [4]])
        calls = [places(2, 1), shoal(2), shoal(1), shoal(0), shoal(3)]
        self.assertEqual(self.told(calls), [[0], [-3], [-3], [1], [2]])

    def test_it_is_one_already(self):
        passage = stirred()
        before = state(passage)
        self.assertEqual(answers_about(passage, joined([shoal(5), shoal(6)])), [1, -4, 1, -4])
        self.assertEqual(state(passage), before)
        self.assertEqual(self.told([shoal(1), shoal(1), shoal(2), shoal(1)]), [[1], [-4], [2], [-4]])


class RowCase:
    """What winds and strong have in common; call, name and most are told by each."""

    def test_sets_the_row(self):
        for row in ([0], [self.most], [3, 1, 2], list(range(8)), [self.most] * 12, [0] * 12):
            self.changes(self.call(row), len(row), **{self.name: row})

    def test_sets_the_empty_row(self):
        self.changes(self.call([]), 0, **{self.name: []})

    def test_every_length(self):
        for length in range(21):
            with self.subTest(length=length):
                self.assertEqual(answers(self.call([1] * length)), [1, length if length <= 12 else -1])

    def test_refuses_a_row_that_is_longer_than_twelve(self):
        for row in ([0] * 13, [1] * 20, [self.most + 1] * 13):
            self.refused(self.call(row), -1)

    def test_refuses_a_number_that_is_too_great_wherever_it_stands(self):
        for great in (self.most + 1, GREATEST):
            self.refused(self.call([great]), -1)
            for place in range(12):
                row = [1] * 12
                row[place] = great
                self.refused(self.call(row), -1)

    def test_every_number_up_to_fifty(self):
        for number in range(51):
            with self.subTest(number=number):
                self.assertEqual(answers(self.call([number])), [1, 1 if number <= self.most else -1])

    def test_the_next_call_is_read_behind_the_row(self):
        for length in (0, 1, 12, 13, 20):
            row = [1] * length
            expected = [[length if length <= 12 else -1], [1], [-4]]
            self.assertEqual(self.told([self.call(row), shoal(1), shoal(1)]), expected)

    def test_the_row_is_a_copy(self):
        row = [1, 2]
        passage = Passage()
        getattr(passage, self.method)(row)
        row.append(3)
        self.assertEqual(state(passage)[self.name], [1, 2])


class WindsTest(RowCase, CallCase):
    call = staticmethod(winds)
    method = "winds"
    name = "wind_row"
    most = 7


class StrongTest(RowCase, CallCase):
    call = staticmethod(strong)
    method = "strong"
    name = "strength_row"
    most = 40


class BoatTest(CallCase):
    def test_sets_the_minutes(self):
        for minutes in ((1, 2, 3, 4, 5), (9, 8, 7, 6, 0), (9, 9, 9, 9, 9), (1, 1, 1, 1, 0), (1, 9, 1, 9, 9)):
            self.changes(boat(*minutes), 0, step_minutes=list(minutes[:4]), turn_minutes=minutes[4])

    def test_a_step_takes_one_to_nine(self):
        for place in range(4):
            for number in (0, 1, 2, 8, 9, 10, 11, GREATEST):
                minutes = [5, 5, 5, 5, 5]
                minutes[place] = number
                with self.subTest(minutes=minutes):
                    self.assertEqual(answers(boat(*minutes)), [1, 0 if 1 <= number <= 9 else -1])

    def test_a_turn_takes_none_to_nine(self):
        for number in (0, 1, 8, 9, 10, 11, GREATEST):
            self.assertEqual(answers(boat(1, 9, 5, 2, number)), [1, 0 if number <= 9 else -1])

    def test_refusals_leave_all_as_it_was(self):
        for place in range(4):
            for number in (0, 10, GREATEST):
                minutes = [3, 3, 3, 3, 3]
                minutes[place] = number
                self.refused(boat(*minutes), -1)
        self.refused(boat(3, 3, 3, 3, 10), -1)
        self.refused(boat(0, 10, 0, 10, GREATEST), -1)


if __name__ == "__main__":
    unittest.main()
