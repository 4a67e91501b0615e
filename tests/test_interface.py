"""What the interface says of the list that is handed in and of the one that is given back."""

import contextlib
import io
import random
import unittest

from sailpassage.water import answers
from told import GREATEST, begins, boat, joined, shoal, split, strong, winds

MANY = [
    begins(3, 3), shoal(4), shoal(4), winds([7, 0]), strong([]), boat(1, 2, 3, 4, 9), begins(5, 2), shoal(9),
    shoal(8), shoal(1), winds([8]), strong([8]), boat(1, 2, 3, 0, 9), winds([0] * 20), strong([40] * 12), shoal(2),
]
MANY_ANSWERS = [0, 1, -4, 2, 0, 0, -1, -2, -3, 2, -1, 1, -1, -1, 12, 3]


class Untouchable(list):
    """A list that lets nobody change it, not for a while either."""

    def refuse(self, *arguments, **named):
        raise AssertionError("what is handed in was changed")

    append = clear = extend = insert = pop = remove = reverse = sort = refuse
    __setitem__ = __delitem__ = __iadd__ = __imul__ = refuse


class Told:
    """The words of promise 1 once more, for the lists that are drawn by lot."""

    def __init__(self):
        self.size = (2, 2)
        self.shoals = set()

    def begins(self, wide, high):
        if not {wide, high} <= {2, 3, 4}:
            return -1
        self.size = (wide, high)
        self.shoals = set()
        return 0

    def shoal(self, cell):
        last = self.size[0] * self.size[1] - 1
        if cell > last:
            return -2
        if cell in (0, last):
            return -3
        if cell in self.shoals:
            return -4
        self.shoals.add(cell)
        return len(self.shoals)

    def winds(self, *row):
        return len(row) if len(row) < 13 and set(row) <= set(range(8)) else -1

    def strong(self, *row):
        return len(row) if len(row) < 13 and set(row) <= set(range(41)) else -1

    def boat(self, *minutes):
        return 0 if set(minutes[:4]) <= set(range(1, 10)) and minutes[4] in range(10) else -1


def drawn_row(lot, most):
    length = lot.choice((0, 1, 5, 11, 12, 13, 20))
    row = [lot.randint(0, most) for number in range(length)]
    if row and lot.random() < 0.3:
        row[lot.randrange(length)] = lot.choice((most + 1, GREATEST))
    return row


def drawn_call(lot):
    """A call's name and its numbers."""
    name = lot.choice(("begins", "shoal", "shoal", "shoal", "winds", "strong", "boat"))
    if name == "begins":
        return name, [lot.choice((2, 3, 4, 4, lot.choice((0, 1, 5, GREATEST)))) for side in range(2)]
    if name == "shoal":
        return name, [lot.choice((lot.randint(0, 17), lot.randint(0, 4), GREATEST))]
    if name == "boat":
        minutes = [lot.randint(1, 9) for number in range(5)]
        minutes[lot.randrange(5)] = lot.choice((0, 1, 9, 10, GREATEST))
        return name, minutes
    return name, drawn_row(lot, 7 if name == "winds" else 40)


class InterfaceTest(unittest.TestCase):
    def test_one_answer_behind_another_with_its_count(self):
        self.assertEqual(answers(joined(MANY)), joined([1, number] for number in MANY_ANSWERS))

    def test_gives_back_a_list_of_whole_numbers(self):
        given = answers(joined(MANY))
        self.assertIs(type(given), list)
        self.assertEqual({type(number) for number in given}, {int})

    def test_one_call_alone(self):
        for call in (begins(2, 2), winds([]), strong([]), boat(1, 1, 1, 1, 0)):
            self.assertEqual(answers(call), [1, 0])
        self.assertEqual(answers(shoal(1)), [1, 1])

    def test_forty_calls(self):
        calls = [strong([40] * 20)] * 39 + [strong([40] * 12)]
        self.assertEqual(answers(joined(calls)), [1, -1] * 39 + [1, 12])

    def test_every_call_behind_every_other(self):
        calls = [begins(4, 2), shoal(2), winds([0, 1, 2]), strong([9, 8]), boat(4, 3, 2, 1, 0)]
        alone = [0, 1, 3, 2, 0]
        for one, call in enumerate(calls):
            for other, behind in enumerate(calls):
                second = -4 if one == other == 1 else alone[other]
                self.assertEqual(answers(call + behind), [1, alone[one], 1, second], (call, behind))

    def test_what_is_handed_in_is_as_it_was(self):
        handed = Untouchable(joined(MANY))
        answers(handed)
        self.assertEqual(handed, joined(MANY))

    def test_keeps_nothing_from_one_time_to_the_next(self):
        first = answers(joined(MANY))
        self.assertEqual(answers(joined(MANY)), first)
        answers(joined([begins(4, 4), shoal(5), shoal(1), shoal(2)]))
        self.assertEqual(answers(joined([shoal(1), shoal(5), shoal(2), shoal(3)])), [1, 1, 1, -2, 1, 2, 1, -3])
        self.assertEqual(answers(joined(MANY)), first)

    def test_the_list_given_back_is_a_new_one(self):
        first = answers(shoal(1))
        first.append(5)
        self.assertEqual(answers(shoal(1)), [1, 1])

    def test_prints_nothing(self):
        printed = io.StringIO()
        with contextlib.redirect_stdout(printed), contextlib.redirect_stderr(printed):
            answers(joined(MANY))
        self.assertEqual(printed.getvalue(), "")

    def test_lists_drawn_by_lot(self):
        lot = random.Random(20)
        numbers = {"begins": begins, "shoal": shoal, "boat": boat}
        for turn in range(2000):
            drawn = [drawn_call(lot) for call in range(lot.choice((1, 2, 5, 20, 40)))]
            told = Told()
            expected = [[getattr(told, name)(*values)] for name, values in drawn]
            rows = {"winds": winds, "strong": strong}
            calls = [numbers[name](*values) if name in numbers else rows[name](values) for name, values in drawn]
            self.assertEqual(split(answers(joined(calls))), expected, calls)


if __name__ == "__main__":
    unittest.main()
