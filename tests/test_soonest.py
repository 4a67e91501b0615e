"""Promise 3: soonest, by passages worked out by hand and by others held against plain searches."""

import random
import unittest

from model import Told, drawn_passage, drawn_voyage, written
from sailpassage.water import Passage, answers, answers_about, keep_earlier
from told import (
    CallCase, begins, boat, change, check, joined, places, sail, shoal, soonest, split, state, stirred, strong, winds)

ANY_SAIL = sail(0, 40, 0)
# From the left of the top row to its right, with nothing but shoals below.
CHANNEL = [begins(4, 2), places(0, 3), shoal(4), shoal(5), shoal(6), shoal(7)]


class SoonestCase(CallCase):
    def answer(self, *calls):
        return self.last([*calls, soonest()])


class AtOnceTest(SoonestCase):
    def test_the_boat_is_at_the_mark(self):
        for cell in range(4):
            self.assertEqual(self.answer(places(cell, cell)), [0])
            self.assertEqual(self.answer(ANY_SAIL, places(cell, cell)), [0])

    def test_whatever_the_wind_and_the_sails(self):
        calls = [places(0, 0), shoal(1), shoal(2), shoal(3), strong([40]), sail(0, 1, 9), change(9)]
        self.assertEqual(self.answer(*calls), [0])

    def test_it_is_written_as_one_number(self):
        self.assertEqual(answers(joined([places(1, 1), soonest()])), [1, 0, 1, 0])


class NoWayTest(SoonestCase):
    def test_no_sail(self):
        self.assertEqual(self.told([soonest()]), [[-6]])
        self.assertEqual(self.answer(begins(4, 4)), [-6])

    def test_no_way_round_the_shoals(self):
        around = [begins(3, 3), ANY_SAIL, shoal(4), shoal(5)]
        self.assertEqual(self.answer(*around), [3, 4, 0, 3, 0, 2, 0])
        self.assertEqual(self.answer(*around, shoal(7)), [-6])
        self.assertEqual(self.answer(begins(3, 3), ANY_SAIL, shoal(1), shoal(3), shoal(4)), [-6])
        self.assertEqual(self.answer(begins(4, 3), ANY_SAIL, shoal(1), shoal(5), shoal(9)), [-6])

    def test_a_wind_that_no_sail_stands_in(self):
        for strength in range(41):
            given = self.answer(sail(7, 12, 0), sail(20, 20, 0), strong([strength]))
            expected = [1, 3, 0] if 7 <= strength <= 12 else [1, 3, 1] if strength == 20 else [-6]
            self.assertEqual(given, expected, strength)

    def test_straight_into_the_wind_alone(self):
        self.assertEqual(self.answer(*CHANNEL, ANY_SAIL, winds([2])), [-6])
        self.assertEqual(self.answer(*CHANNEL, ANY_SAIL, winds([2, 2, 2])), [-6])

    def test_a_refused_one_leaves_all_as_it_was(self):
        self.keeps(Passage(), soonest(), [-6])
        passage = stirred()
        answers_about(passage, shoal(4))
        answers_about(passage, shoal(9))
        self.keeps(passage, soonest(), [-6])

    def test_one_that_is_answered_leaves_all_as_it_was(self):
        passage = stirred()
        before = state(passage)
        self.assertGreater(split(answers_about(passage, soonest()))[0][0], 0)
        self.assertEqual(state(passage), before)


class LastMinuteTest(SoonestCase):
    def test_minute_40_and_41(self):
        calls = [begins(4, 2), places(0, 3), boat(9, 9, 9, 9, 0), sail(0, 40, 3)]
        self.assertEqual(self.answer(*calls, change(3)), [39, 2, 0, 2, 0, 2, 0])
        self.assertEqual(self.answer(*calls, change(4)), [40, 2, 0, 2, 0, 2, 0])
        self.assertEqual(self.answer(*calls, change(5)), [-6])

    def test_by_the_turn(self):
        calls = [begins(3, 4), places(11, 1), sail(0, 40, 3)]
        self.assertEqual(self.answer(*calls, boat(9, 9, 9, 9, 4)), [40, 7, 0, 7, 0, 1, 0])
        self.assertEqual(self.answer(*calls, boat(9, 9, 9, 9, 5)), [-6])

    def test_check_goes_on_where_soonest_ends(self):
        calls = [*CHANNEL, boat(9, 9, 9, 9, 0), sail(0, 40, 4), change(2)]
        self.assertEqual(self.told(calls + [soonest(), check([2, 0] * 3)])[-2:], [[-6], [41, 3, 1, 0]])


class ByHandTest(SoonestCase):
    def test_between_shoals_that_touch_at_a_corner(self):
        self.assertEqual(self.answer(ANY_SAIL, shoal(1), shoal(2)), [1, 3, 0])
        self.assertEqual(self.answer(ANY_SAIL, places(1, 2), shoal(0), shoal(3)), [1, 5, 0])
        self.assertEqual(self.answer(ANY_SAIL, places(2, 1), shoal(0), shoal(3)), [1, 1, 0])
        self.assertEqual(self.answer(ANY_SAIL, places(3, 0), shoal(1), shoal(2)), [1, 7, 0])

    def test_the_first_sail_costs_a_change(self):
        self.assertEqual(self.answer(ANY_SAIL, change(7)), [8, 3, 0])
        self.assertEqual(self.answer(sail(0, 40, 2), change(7)), [10, 3, 0])

    def test_against_the_wind(self):
        """The mark is straight to windward, two cells off; the boat beats, to the right first."""
        calls = [begins(3, 3), places(7, 1), ANY_SAIL]
        self.assertEqual(self.answer(*calls), [2, 1, 0, 7, 0])
        self.assertEqual(self.answer(*calls, boat(2, 1, 1, 1, 3)), [7, 1, 0, 7, 0])
        self.assertEqual(self.answer(*calls, winds([4])), [2, 0, 0, 0, 0])

    def test_the_earliest_by_heading(self):
        """2 2 2, 2 3 1, 3 1 2 and 3 2 1 get there at the same minute."""
        calls = [begins(4, 2), places(0, 3), ANY_SAIL]
        self.assertEqual(self.answer(*calls), [3, 2, 0, 2, 0, 2, 0])
        self.assertEqual(self.answer(*calls, shoal(2)), [3, 2, 0, 3, 0, 1, 0])
        self.assertEqual(self.answer(*calls, shoal(1)), [3, 3, 0, 1, 0, 2, 0])
        self.assertEqual(self.answer(*calls, shoal(1), shoal(2)), [3, 3, 0, 2, 0, 1, 0])

    def test_the_earliest_by_sail(self):
        self.assertEqual(self.answer(*CHANNEL, ANY_SAIL, ANY_SAIL, ANY_SAIL), [3, 2, 0, 2, 0, 2, 0])
        self.assertEqual(self.answer(*CHANNEL, sail(0, 40, 1), ANY_SAIL, ANY_SAIL), [3, 2, 1, 2, 1, 2, 1])

    def test_the_earliest_by_sail_where_it_stands(self):
        calls = [*CHANNEL, strong([5, 20, 20]), sail(5, 5, 0), sail(6, 40, 0), ANY_SAIL]
        self.assertEqual(self.answer(*calls), [3, 2, 0, 2, 1, 2, 1])
        self.assertEqual(self.answer(*calls, change(1)), [4, 2, 2, 2, 2, 2, 2])

    def test_a_lower_heading_comes_ahead_of_a_lower_sail(self):
        """At minute 1 no sail stands. 2 1 2 0 and 3 0 1 0 both get there at minute 3."""
        calls = [begins(3, 2), places(0, 2), boat(1, 1, 2, 1, 0), strong([5, 40, 5, 5]), sail(0, 20, 0), sail(0, 20, 1)]
        self.assertEqual(self.answer(*calls), [3, 2, 1, 2, 0])
        self.assertEqual(self.answer(*calls, shoal(1)), [3, 3, 0, 1, 0])

    def test_another_sail_is_set_in_time(self):
        """It blows up at minute 3. Sail 0 first would be sooner for one step, and a minute later at the mark."""
        calls = [*CHANNEL, strong([5, 5, 5] + [20] * 9), sail(0, 10, 0), sail(0, 40, 1), change(2)]
        self.assertEqual(self.answer(*calls), [8, 2, 1, 2, 1, 2, 1])
        self.assertEqual(self.last(calls + [check([2, 0, 2, 1, 2, 1])]), [9, 3, 1, 1])
        self.assertEqual(self.last(calls + [check([2, 0, 2, 0, 2, 0])]), [-6, 1])

    def test_another_sail_is_set_under_way(self):
        """Behind a longer calm the light sail is worth its change."""
        calls = [*CHANNEL, strong([5, 5, 5, 5] + [20] * 8), sail(0, 10, 0), sail(0, 40, 4), change(2)]
        self.assertEqual(self.answer(*calls), [11, 2, 0, 2, 0, 2, 1])
        self.assertEqual(self.last(calls + [check([2, 1, 2, 1, 2, 1])]), [17, 3, 1, 1])

    def test_a_slower_sail_gets_there_sooner(self):
        """With sail 0 the boat is at minute 1 where the wind bars the way."""
        calls = [*CHANNEL, winds([0, 2, 0]), sail(0, 40, 0), sail(0, 40, 1)]
        self.assertEqual(self.answer(*calls), [4, 2, 1, 2, 0, 2, 0])

    def test_a_turn_is_spared(self):
        calls = [begins(3, 4), places(11, 1), ANY_SAIL]
        self.assertEqual(self.answer(*calls), [3, 7, 0, 1, 0, 7, 0])
        self.assertEqual(self.answer(*calls, boat(1, 1, 1, 1, 1)), [4, 7, 0, 7, 0, 1, 0])

    def test_a_longer_way_spares_a_turn(self):
        """At the odd minutes the wind is 2: 3 1 has a turn, 2 4 1 has none."""
        calls = [begins(3, 2), places(0, 2), ANY_SAIL, winds([0, 2])]
        self.assertEqual(self.answer(*calls), [2, 3, 0, 1, 0])
        self.assertEqual(self.answer(*calls, boat(1, 1, 1, 1, 5)), [3, 2, 0, 4, 0, 1, 0])

    def test_the_side_is_kept_before_the_wind(self):
        """The only ways are 3 4 5 and 3 4 3: behind the step at point 4 the boat still has side 1."""
        calls = [begins(2, 4), places(0, 6), boat(1, 1, 1, 1, 3), ANY_SAIL]
        shoals = [shoal(cell) for cell in (1, 2, 4, 7)]
        self.assertEqual(self.answer(*calls, *shoals), [6, 3, 0, 4, 0, 5, 0])
        calls = [begins(3, 4), places(0, 11), boat(1, 1, 1, 1, 3), ANY_SAIL]
        shoals = [shoal(cell) for cell in (1, 2, 3, 5, 6, 8, 9, 10)]
        self.assertEqual(self.answer(*calls, *shoals), [3, 3, 0, 4, 0, 3, 0])

    def test_waiting_for_the_wind(self):
        """The mark can be entered from its left alone, and the wind lets it at minute 11."""
        calls = [begins(3, 3), places(1, 2), shoal(4), shoal(5), shoal(6), shoal(7), shoal(8), ANY_SAIL]
        way = [5, 0, 4, 0, 4, 0, 4, 1, 6, 4, 1, 2]
        given = self.answer(*calls, winds([2] * 11 + [0]))
        self.assertEqual(given, [12] + joined([heading, 0] for heading in way))

    def test_the_wind_is_barred_a_while_by_strength(self):
        """At minutes 1 and 2 no sail stands, so a step has to take three minutes."""
        calls = [*CHANNEL, strong([5, 40, 40]), sail(0, 20, 0), sail(0, 20, 2), sail(0, 20, 1)]
        self.assertEqual(self.answer(*calls), [7, 2, 1, 2, 1, 2, 0])


class KeepEarlierTest(unittest.TestCase):
    def test_keeps_the_earlier_of_two(self):
        pairs = ([[2, 1], [3, 0]], [[3, 0], [2, 1]], [[2, 1], [2, 1]], [[2, 1], [2, 2, 0, 0]],
                 [[2, 1, 0, 5], [2, 1, 0, 4]])
        for ways in pairs:
            kept = {}
            for way in ways:
                keep_earlier(kept, (1, 2, 0, 0), way)
            self.assertEqual(kept, {(1, 2, 0, 0): min(ways)})


class SearchTest(CallCase):
    def passage(self, lot, *sizes):
        """Drawn calls as they are handed in, and the same passage told."""
        drawn = drawn_passage(lot, *sizes)
        told = Told()
        for name, numbers in drawn:
            self.assertGreaterEqual(getattr(told, name)(*numbers)[0], 0)
        return written(drawn), told

    def holds(self, calls, told, given):
        """The answer is what check says of its way, which wasn't at the mark before its end."""
        minute, way = given[0], given[1:]
        self.assertEqual(self.last(calls + [check(way)])[:2], [minute, told.spots.index(told.mark_spot)])
        for end in range(0, len(way), 2):
            at = self.last(calls + [check(way[:end])])
            self.assertNotEqual(at[1], told.spots.index(told.mark_spot))

    def test_against_all_ways_on_small_waters(self):
        lot = random.Random(3)
        for number in range(1500):
            calls, told = self.passage(lot, (2, 3), lot.choice((3, 4, 5)))
            given = self.last(calls + [soonest()])
            self.assertEqual(given, told.plain_soonest(), calls)
            if given != [-6]:
                self.holds(calls, told, given)

    def test_against_a_search_from_the_mark_on_all_waters(self):
        lot = random.Random(4)
        ended = []
        for number in range(600):
            calls, told = self.passage(lot)
            given = self.last(calls + [soonest()])
            self.assertEqual(given, told.soonest(), calls)
            ended.append(given[0])
            if given != [-6]:
                self.holds(calls, told, given)
        self.assertGreater(len(set(ended)), 20)
        self.assertGreater(sum(minute > 0 for minute in ended), 300)

    def test_ways_that_are_drawn_are_checked_as_told(self):
        lot = random.Random(5)
        for number in range(1500):
            calls, told = self.passage(lot)
            way = drawn_voyage(lot, told)
            self.assertEqual(self.last(calls + [check(way)]), told.check(way), calls)


if __name__ == "__main__":
    unittest.main()
