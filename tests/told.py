"""How the tests write calls and read answers."""

import copy

GREATEST = 4294967295


def begins(wide, high):
    return [0, wide, high]


def shoal(cell):
    return [1, cell]


def winds(row):
    return [2, len(row)] + list(row)


def strong(row):
    return [3, len(row)] + list(row)


def boat(one, two, three, four, turn):
    return [4, one, two, three, four, turn]


def joined(calls):
    return [number for call in calls for number in call]


def split(given):
    """The answers, one list for each call, out of the list that is given back."""
    parts = []
    place = 0
    while place < len(given):
        end = place + 1 + given[place]
        if end > len(given):
            raise ValueError("an answer is shorter than its count says")
        parts.append(given[place + 1:end])
        place = end
    return parts


def state(passage):
    return copy.deepcopy(vars(passage))


def beginning(wide, high):
    """What a passage holds as it begins on a water of this size."""
    return {
        "wide": wide,
        "high": high,
        "shoals": {},
        "wind_row": [],
        "strength_row": [],
        "step_minutes": [1, 1, 1, 1],
        "turn_minutes": 0,
        "change_minutes": 0,
        "sails": [],
        "boat_cell": 0,
        "mark_cell": wide * high - 1,
    }
