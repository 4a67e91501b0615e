"""How the tests write calls and read answers, and what they share."""

import copy
import unittest

from sailpassage.water import Passage, answers, answers_about

GREATEST = 4294967295


def begins(wide, high):
    return [0, wide, high]


def shoal(cell):
    return [1, cell]


def winds(row):
    return [2, len(row)] + list(row)


def strong(row):
    return [3, len(row)] + list(row)


def boat(one, two, three, four, turn):
    return [4, one, two, three, four, turn]


def places(boat_cell, mark_cell):
    return [5, boat_cell, mark_cell]


def sail(least, greatest, slow):
    return [6, least, greatest, slow]


def change(minutes):
    return [7, minutes]


def soonest():
    return [8]


def check(way):
    return [9, len(way)] + list(way)


def joined(calls):
    return [number for call in calls for number in call]


def split(given):
    """The answers, one list for each call, out of the list that is given back."""
    parts = []
    place = 0
    while place < len(given):
        end = place + 1 + given[place]
        if end > len(given):
            raise ValueError("an answer is shorter than its count says")
        parts.append(given[place + 1:end])
        place = end
    return parts


def state(passage):
    return copy.deepcopy(vars(passage))


def beginning(wide, high):
    """What a passage holds as it begins on a water of this size."""
    return {
        "wide": wide,
        "high": high,
        "shoals": {},
        "wind_row": [],
        "strength_row": [],
        "step_minutes": [1, 1, 1, 1],
        "turn_minutes": 0,
        "change_minutes": 0,
        "sails": [],
        "boat_cell": 0,
        "mark_cell": wide * high - 1,
    }


# Calls behind which nothing of a passage is as it began.
STIRRED = [
    begins(4, 3), shoal(5), shoal(6), winds([1, 7]), strong([40, 3, 0]), boat(2, 3, 4, 5, 6), places(8, 3),
    sail(2, 40, 1), sail(0, 3, 0), change(4),
]


def stirred():
    passage = Passage()
    answers_about(passage, joined(STIRRED))
    return passage


class CallCase(unittest.TestCase):
    def told(self, calls):
        """The answers to calls about a new passage, one list for each."""
        return split(answers(joined(calls)))

    def last(self, calls):
        """The answer to the last of the calls; none of those before it is refused."""
        given = self.told(calls)
        self.assertGreaterEqual(min(answer[0] for answer in given[:-1]), 0, calls)
        return given[-1]

    def refused(self, call, number):
        """The call is refused so, on a new passage and on a stirred one, and leaves all as it was."""
        for passage in (Passage(), stirred()):
            self.keeps(passage, call, [number])

    def keeps(self, passage, call, answer):
        """The call answers so about the passage, and leaves all as it was."""
        before = state(passage)
        self.assertEqual(split(answers_about(passage, call)), [answer], call)
        self.assertEqual(state(passage), before, call)

    def changes(self, call, number, **values):
        """The call answers so, and sets these values and no other, on a new passage and on a stirred one."""
        for passage in (Passage(), stirred()):
            before = state(passage)
            self.assertEqual(answers_about(passage, call), [1, number], call)
            self.assertEqual(state(passage), {**before, **values}, call)
