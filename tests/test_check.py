"""Promise 3: check, and by it what the words say of headings, wind, sides, sails and minutes."""

import unittest

from sailpassage.water import Passage, answers, answers_about, point_of, side_of, told_at
from told import (
    GREATEST, CallCase, begins, boat, change, check, joined, places, sail, shoal, stirred, strong, winds)

ANY_SAIL = sail(0, 40, 0)
OPEN = [begins(4, 4), ANY_SAIL]
# Where each heading leads to from cell 5 of a water that is 4 wide.
AROUND_FIVE = (1, 2, 6, 10, 9, 8, 4, 0)


class EmptyWayTest(CallCase):
    def test_ends_where_it_begins(self):
        self.assertEqual(self.told([check([])]), [[0, 0, 0, 0]])
        self.assertEqual(self.last([begins(3, 4), places(7, 2), check([])]), [0, 7, 0, 0])

    def test_no_sail_is_told_as_the_number_of_sails(self):
        for number in range(4):
            self.assertEqual(self.told([ANY_SAIL] * number + [check([])])[-1], [0, 0, 0, number])

    def test_boat_at_the_mark(self):
        self.assertEqual(self.last([places(2, 2), check([])]), [0, 2, 0, 0])


class RefusedTest(CallCase):
    def test_more_than_forty_steps(self):
        there_and_back = [2, 0, 6, 0]
        calls = [ANY_SAIL, check(there_and_back * 20), check(there_and_back * 20 + [2, 0]), check([2, 0] * 50)]
        self.assertEqual(self.told(calls), [[0], [40, 0, 2, 0], [-1], [-1]])

    def test_every_length(self):
        for steps in range(51):
            way = ([2, 0, 6, 0] * 25)[:2 * steps]
            expected = [steps, steps % 2, (0 if steps == 0 else 2 - steps % 2), (1 if steps == 0 else 0)]
            self.assertEqual(self.last([ANY_SAIL, check(way)]), expected if steps <= 40 else [-1], steps)

    def test_heading_above_seven(self):
        for heading in (8, 9, 15, GREATEST):
            self.assertEqual(self.told(OPEN + [check([heading, 0])])[-1], [-1])
        self.assertEqual(self.last(OPEN + [places(5, 15), check([7, 0])]), [1, 0, 2, 0])

    def test_a_sail_that_there_is_not(self):
        for number in range(4):
            for asked in (0, 1, 2, 3, 4, GREATEST):
                given = self.told([ANY_SAIL] * number + [check([3, asked])])[-1]
                self.assertEqual(given, [1, 3, 1, asked] if asked < number else [-1], (number, asked))

    def test_at_a_late_step(self):
        for place in range(40):
            for number, least in ((0, 8), (1, 1)):
                for great in (least, GREATEST):
                    way = [2, 0, 6, 0] * 20
                    way[2 * place + number] = great
                    self.assertEqual(self.told([ANY_SAIL, check(way)])[-1], [-1], way)

    def test_ahead_of_a_step_that_can_not_be_done(self):
        for wrong in ([8, 0], [GREATEST, 0], [3, 1], [0, GREATEST]):
            self.assertEqual(self.told([ANY_SAIL, check([0, 0] + wrong)]), [[0], [-1]])
            self.assertEqual(self.told([ANY_SAIL, check([0, 0] * 39 + wrong)]), [[0], [-1]])
        self.assertEqual(self.told([ANY_SAIL, check([0, 0] * 41), check([0, 0] * 40)]), [[0], [-1], [-6, 0]])

    def test_headings_and_sails_are_not_mistaken_for_one_another(self):
        calls = [ANY_SAIL, ANY_SAIL, ANY_SAIL, check([3, 2]), check([2, 3]), check([7, 2, 2, 7])]
        self.assertEqual(self.told(calls)[3:], [[1, 3, 1, 2], [-1], [-1]])

    def test_check_leaves_all_as_it_was(self):
        for way in ([8, 0], [0, 3], [0, 0] * 41, [GREATEST] * 100):
            self.refused(check(way), -1)
        self.keeps(stirred(), check([7, 0]), [-6, 0])
        self.keeps(stirred(), check([2, 0]), [7, 9, 1, 0])
        self.keeps(stirred(), check([]), [0, 8, 0, 2])
        self.keeps(Passage(), check([]), [0, 0, 0, 0])


class CellsTest(CallCase):
    def test_each_heading_leads_to_the_next_cell(self):
        for heading, cell in enumerate(AROUND_FIVE):
            calls = OPEN + [places(5, 15), winds([(heading + 4) % 8]), check([heading, 0])]
            self.assertEqual(self.last(calls), [1, cell, 0, 0])

    def test_waters_of_other_widths(self):
        for wide in (2, 3, 4):
            calls = [begins(wide, 4), ANY_SAIL, winds([6]), check([4, 0, 3, 0, 4, 0, 1, 0])]
            self.assertEqual(self.last(calls), [-6, 3] if wide == 2 else [4, 2 * wide + 2, 1, 0])

    def test_beyond_the_water(self):
        edges = (((1, 2), (7, 0, 1)), ((7, 11), (1, 2, 3)), ((13, 14), (3, 4, 5)), ((4, 8), (5, 6, 7)),
                 ((0,), (5, 6, 7, 0, 1)), ((3,), (7, 0, 1, 2, 3)), ((12,), (3, 4, 5, 6, 7)), ((15,), (1, 2, 3, 4, 5)))
        for cells, headings in edges:
            for cell in cells:
                for heading in range(8):
                    given = self.last(OPEN + [places(cell, 0), winds([(heading + 4) % 8]), check([heading, 0])])
                    self.assertEqual(given[0], -6 if heading in headings else 1, (cell, heading))

    def test_beyond_the_water_at_a_later_step(self):
        winds_aft = winds([6])
        self.assertEqual(self.last(OPEN + [winds_aft, check([2, 0, 2, 0, 2, 0])]), [3, 3, 0, 0])
        self.assertEqual(self.last(OPEN + [winds_aft, check([2, 0, 2, 0, 2, 0, 2, 0, 2, 0])]), [-6, 3])
        self.assertEqual(self.last(OPEN + [winds([0]), check([4, 0, 4, 0, 4, 0, 4, 0])]), [-6, 3])

    def test_to_a_shoal(self):
        for heading, cell in enumerate(AROUND_FIVE):
            calls = OPEN + [places(5, 15), shoal(cell), winds([(heading + 4) % 8]), check([heading, 0])]
            self.assertEqual(self.last(calls), [-6, 0])
        self.assertEqual(self.last(OPEN + [shoal(10), check([3, 0, 2, 0, 4, 0])]), [-6, 2])
        self.assertEqual(self.last(OPEN + [shoal(10), check([3, 0, 2, 0])]), [2, 6, 1, 0])

    def test_between_two_shoals_that_touch_at_a_corner(self):
        for boat_cell, heading, cell in ((0, 3, 3), (3, 7, 0), (1, 5, 2), (2, 1, 1)):
            shoals = [shoal(number) for number in range(4) if number not in (boat_cell, cell)]
            calls = [places(boat_cell, cell), *shoals, ANY_SAIL, check([heading, 0])]
            self.assertEqual(self.last(calls)[:2], [1, cell])

    def test_over_the_mark_and_on(self):
        self.assertEqual(self.last([ANY_SAIL, check([3, 0, 6, 0])]), [2, 2, 2, 0])
        self.assertEqual(self.last([ANY_SAIL, places(0, 0), check([2, 0])]), [1, 1, 1, 0])
        self.assertEqual(self.last([ANY_SAIL, places(0, 1), check([2, 0, 6, 0, 2, 0])]), [3, 1, 1, 0])


class WindTest(CallCase):
    def test_point_and_side_of_every_heading_in_every_wind(self):
        minutes = (None, 2, 3, 4, 5, 4, 3, 2)
        sides = (None, 1, 1, 1, 0, 2, 2, 2)
        for wind in range(8):
            for heading in range(8):
                on = (heading - wind) % 8
                given = self.last(OPEN + [places(5, 15), winds([wind]), boat(2, 3, 4, 5, 9), check([heading, 0])])
                if on == 0:
                    self.assertEqual(given, [-6, 0])
                else:
                    self.assertEqual(given, [minutes[on], AROUND_FIVE[heading], sides[on], 0], (wind, heading))

    def test_point_and_side_by_eighths(self):
        self.assertEqual([point_of(eighths) for eighths in range(8)], [0, 1, 2, 3, 4, 3, 2, 1])
        self.assertEqual([side_of(eighths) for eighths in range(8)], [0, 1, 1, 1, 0, 2, 2, 2])

    def test_an_empty_row_is_0(self):
        for row in ([], [0]):
            for heading in range(8):
                calls = OPEN + [places(5, 15), winds(row), strong(row), boat(2, 3, 4, 5, 9)]
                given = self.last(calls + [check([heading, 0])])[0]
                self.assertEqual(given, (-6, 2, 3, 4, 5, 4, 3, 2)[heading])
        calls = [sail(0, 0, 0), sail(1, 40, 0)]
        self.assertEqual(self.told(calls + [check([3, 0]), check([3, 1])])[2:], [[1, 3, 1, 0], [-6, 0]])

    def test_rows_come_round_again(self):
        for length in range(1, 13):
            row = list(range(length))
            self.assertEqual([told_at(row, minute) for minute in range(40)], (row * 40)[:40])
        self.assertEqual([told_at([], minute) for minute in range(40)], [0] * 40)

    def test_straight_into_the_wind_at_a_later_step(self):
        calls = OPEN + [winds([0, 0, 2]), check([2, 0, 2, 0, 2, 0]), check([2, 0, 2, 0, 3, 0])]
        self.assertEqual(self.told(calls)[-2:], [[-6, 2], [3, 7, 1, 0]])

    def test_wind_and_strength_of_the_minute_at_which_a_step_begins(self):
        """The two rows are of different lengths: at minute 3 the wind is 0 again, the strength 10."""
        calls = [begins(4, 4), places(5, 0), winds([0, 2, 4]), strong([5, 10]), sail(5, 5, 0), sail(10, 10, 0)]
        whole = [2, 0, 3, 1, 5, 0, 6, 1]
        self.assertEqual(self.last(calls + [check(whole)]), [4, 13, 2, 1])
        for place, heading in enumerate((0, 2, 4, 0)):
            into_the_wind = list(whole)
            into_the_wind[2 * place] = heading
            self.assertEqual(self.last(calls + [check(into_the_wind)]), [-6, place])
            other_sail = list(whole)
            other_sail[2 * place + 1] = 1 - whole[2 * place + 1]
            self.assertEqual(self.last(calls + [check(other_sail)]), [-6, place])

    def test_a_long_step_passes_over_minutes_that_would_forbid_it(self):
        calls = [begins(4, 2), winds([0, 2, 2]), strong([5, 40, 40]), sail(0, 20, 2)]
        self.assertEqual(self.last(calls + [check([2, 0, 2, 0, 2, 0])]), [9, 3, 1, 0])
        calls = [begins(4, 2), winds([0, 2, 2]), strong([5, 40, 40]), sail(0, 20, 1)]
        self.assertEqual(self.last(calls + [check([2, 0, 2, 0, 2, 0])]), [-6, 1])

    def test_a_sail_stands_from_its_least_strength_to_its_greatest(self):
        for strength in range(41):
            given = self.last([strong([strength]), sail(7, 21, 0), check([3, 0])])
            self.assertEqual(given, [1, 3, 1, 0] if 7 <= strength <= 21 else [-6, 0], strength)
            given = self.last([strong([strength]), sail(12, 12, 0), check([3, 0])])
            self.assertEqual(given, [1, 3, 1, 0] if strength == 12 else [-6, 0], strength)

    def test_a_sail_that_does_not_stand_at_a_later_step(self):
        calls = [begins(4, 2), strong([20, 20, 21]), sail(0, 20, 0), sail(0, 40, 0)]
        ways = [check([2, 0, 2, 0, 2, 0]), check([2, 0, 2, 0, 2, 1]), check([2, 0, 2, 1, 2, 0])]
        self.assertEqual(self.told(calls + ways)[-3:], [[-6, 2], [3, 3, 1, 1], [-6, 2]])


class TurnTest(CallCase):
    def ends(self, headings, *calls):
        way = joined([heading, 0] for heading in headings)
        return self.last(OPEN + [places(9, 15), boat(1, 1, 1, 1, 5), *calls, check(way)])

    def test_the_first_step_has_no_turn(self):
        self.assertEqual(self.ends([7]), [1, 4, 2, 0])
        self.assertEqual(self.ends([5]), [1, 12, 2, 0])
        self.assertEqual(self.ends([1]), [1, 6, 1, 0])
        self.assertEqual(self.ends([4]), [1, 13, 0, 0])

    def test_another_side_is_a_turn(self):
        self.assertEqual(self.ends([1, 7]), [7, 1, 2, 0])
        self.assertEqual(self.ends([7, 1]), [7, 1, 1, 0])
        self.assertEqual(self.ends([1, 7, 3]), [13, 6, 1, 0])

    def test_the_same_side_is_none(self):
        self.assertEqual(self.ends([1, 2]), [2, 7, 1, 0])
        self.assertEqual(self.ends([7, 5]), [-6, 1])
        self.assertEqual(self.ends([6, 7]), [-6, 1])
        self.assertEqual(self.ends([2, 6, 5]), [8, 12, 2, 0])

    def test_the_side_is_kept_behind_a_step_at_point_4(self):
        self.assertEqual(self.ends([1, 4]), [2, 10, 1, 0])
        self.assertEqual(self.ends([7, 4]), [2, 8, 2, 0])
        self.assertEqual(self.ends([1, 4, 7]), [8, 5, 2, 0])
        self.assertEqual(self.ends([1, 4, 1]), [3, 7, 1, 0])
        self.assertEqual(self.ends([7, 4, 1]), [8, 5, 1, 0])

    def test_no_side_yet_is_no_turn(self):
        self.assertEqual(self.ends([4, 7]), [2, 8, 2, 0])
        self.assertEqual(self.ends([4, 1]), [2, 10, 1, 0])

    def test_the_side_goes_by_the_wind_of_each_step(self):
        self.assertEqual(self.ends([2, 2], winds([0, 4])), [7, 11, 2, 0])
        self.assertEqual(self.ends([2, 6], winds([0, 4])), [2, 9, 1, 0])

    def test_a_turn_may_take_none_to_nine(self):
        for minutes in range(10):
            self.assertEqual(self.ends([1, 7], boat(2, 1, 1, 1, minutes)), [4 + minutes, 1, 2, 0])


class SailsTest(CallCase):
    def ends(self, *numbers):
        """Along the top and back, with these sails."""
        headings = (2, 2, 2, 6, 6, 6)
        way = joined([heading, number] for heading, number in zip(headings, numbers))
        calls = [begins(4, 2), sail(0, 40, 0), sail(0, 40, 2), sail(0, 40, 0), change(4), check(way)]
        return self.last(calls)

    def test_the_first_one_costs_a_change(self):
        self.assertEqual(self.ends(0), [5, 1, 1, 0])
        self.assertEqual(self.ends(1), [7, 1, 1, 1])
        self.assertEqual(self.ends(2), [5, 1, 1, 2])

    def test_the_same_one_again_costs_none(self):
        self.assertEqual(self.ends(0, 0), [6, 2, 1, 0])
        self.assertEqual(self.ends(1, 1), [10, 2, 1, 1])

    def test_another_one_costs_a_change(self):
        self.assertEqual(self.ends(0, 1), [12, 2, 1, 1])
        self.assertEqual(self.ends(0, 1, 1), [15, 3, 1, 1])
        self.assertEqual(self.ends(0, 1, 1, 0), [20, 2, 2, 0])
        self.assertEqual(self.ends(0, 1, 0, 1), [24, 2, 2, 1])

    def test_one_that_is_just_like_it_is_another_one(self):
        self.assertEqual(self.ends(0, 2), [10, 2, 1, 2])
        self.assertEqual(self.ends(0, 2, 0, 2, 0, 2), [30, 0, 2, 2])

    def test_all_minutes_are_added_up(self):
        calls = [begins(3, 2), boat(9, 8, 7, 6, 5), sail(0, 40, 4), sail(0, 40, 1), change(3)]
        self.assertEqual(self.last(calls + [check([2, 0])]), [15, 1, 1, 0])
        self.assertEqual(self.last(calls + [check([2, 0, 6, 1])]), [15 + 8 + 5 + 1 + 3, 0, 2, 1])
        self.assertEqual(self.last(calls + [check([2, 0, 5, 0])]), [15 + 7 + 5 + 4, 3, 2, 0])
        self.assertEqual(self.last(calls + [check([2, 0, 4, 1])]), [15 + 6 + 1 + 3, 4, 1, 1])

    def test_a_way_may_end_later_than_minute_40(self):
        calls = [boat(9, 9, 9, 9, 9), sail(0, 40, 9), change(9)]
        self.assertEqual(self.last(calls + [check([2, 0, 6, 0])]), [54, 0, 2, 0])
        self.assertEqual(self.last(calls + [check([2, 0, 6, 0] * 20)]), [1080, 0, 2, 0])

    def test_a_way_that_ends_later_goes_by_the_rows_to_the_end(self):
        calls = [boat(9, 9, 9, 9, 9), sail(0, 0, 9), change(9), strong([0, 0, 0, 0, 0, 0, 0, 0, 0, 40])]
        self.assertEqual(self.last(calls + [check([2, 0, 6, 0] * 3)]), [162, 0, 2, 0])
        self.assertEqual(self.last(calls + [check([2, 0, 6, 0] * 4)]), [-6, 7])


class WrittenTest(CallCase):
    def test_how_it_is_written(self):
        self.assertEqual(answers(joined([ANY_SAIL, check([3, 0]), check([0, 0]), check([8, 0])])),
                         [1, 0, 4, 1, 3, 1, 0, 2, -6, 0, 1, -1])

    def test_the_next_call_is_read_behind_the_way(self):
        for steps in (0, 1, 40, 41, 50):
            given = self.told([ANY_SAIL, check([3, 0] * steps), shoal(1), shoal(1)])
            self.assertEqual(given[2:], [[1], [-4]])

    def test_a_way_handed_to_the_passage_stays_as_it_was(self):
        way = [3, 0]
        passage = Passage()
        answers_about(passage, ANY_SAIL)
        self.assertEqual(passage.check(way), [1, 3, 1, 0])
        self.assertEqual(way, [3, 0])


if __name__ == "__main__":
    unittest.main()
