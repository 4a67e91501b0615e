"""What the interface says of the list that is handed in and of the one that is given back."""

import contextlib
import io
import random
import unittest

from model import Told, drawn_call, drawn_passage, drawn_voyage, written
from sailpassage.water import answers
from told import (
    GREATEST, begins, boat, change, check, joined, places, sail, shoal, soonest, split, strong, winds)

MANY = [
    begins(3, 3), shoal(4), shoal(4), winds([7, 0]), strong([]), boat(1, 2, 3, 4, 9), begins(5, 2), shoal(9),
    shoal(8), shoal(1), winds([8]), strong([8]), boat(1, 2, 3, 0, 9), winds([0] * 20), strong([40] * 12), shoal(2),
    places(4, 9), places(4, 0), places(0, 8), soonest(), sail(0, 41, 0), sail(0, 40, 0), sail(0, 40, 0), sail(1, 1, 1),
    sail(0, 0, 0), change(10), change(1), soonest(), check([]), check([4, 1, 3, 1]), check([8, 0]), check([2, 0]),
]
# The soonest by hand: at minutes 0, 4 and 8 the wind is 7. Heading 4 is at point 3, with the first change 4 minutes;
# heading 3 at point 4, 4 minutes; heading 2 at point 3 on the other side, with the turn 12 minutes.
MANY_ANSWERS = [
    [0], [1], [-4], [2], [0], [0], [-1], [-2], [-3], [2], [-1], [1], [-1], [-1], [12], [3],
    [-2], [-3], [0], [-6], [-1], [0], [1], [2],
    [-5], [-1], [0], [20, 4, 0, 3, 0, 2, 0], [0, 0, 0, 3], [8, 7, 2, 1], [-1], [-6, 0],
]
TEN_KINDS = (
    ["begins"] + ["shoal"] * 4 + ["winds"] * 2 + ["strong"] * 2 + ["boat"] * 2 + ["places"] * 3 + ["sail"] * 4
    + ["change"] * 2 + ["soonest"] * 4 + ["check"] * 5)


class Untouchable(list):
    """A list that lets nobody change it, not for a while either."""

    def refuse(self, *arguments, **named):
        raise AssertionError("what is handed in was changed")

    append = clear = extend = insert = pop = remove = reverse = sort = refuse
    __setitem__ = __delitem__ = __iadd__ = __imul__ = refuse


class InterfaceTest(unittest.TestCase):
    def test_one_answer_behind_another_with_its_count(self):
        self.assertEqual(answers(joined(MANY)), joined([len(answer), *answer] for answer in MANY_ANSWERS))

    def test_gives_back_a_list_of_whole_numbers(self):
        given = answers(joined(MANY))
        self.assertIs(type(given), list)
        self.assertEqual({type(number) for number in given}, {int})

    def test_one_call_alone(self):
        for call in (begins(2, 2), winds([]), strong([]), boat(1, 1, 1, 1, 0), places(0, 0), sail(0, 0, 0), change(0)):
            self.assertEqual(answers(call), [1, 0])
        self.assertEqual(answers(shoal(1)), [1, 1])
        self.assertEqual(answers(soonest()), [1, -6])
        self.assertEqual(answers(check([])), [4, 0, 0, 0, 0])

    def test_forty_calls(self):
        calls = [strong([40] * 20)] * 39 + [strong([40] * 12)]
        self.assertEqual(answers(joined(calls)), [1, -1] * 39 + [1, 12])

    def test_the_longest_list(self):
        """Forty calls of the longest rows and ways, all that are let and all that are refused."""
        there_and_back = [2, 0, 6, 0] * 25
        calls = [sail(0, 40, 0)] + [check(there_and_back)] * 20 + [check(there_and_back[:80])] * 19
        self.assertEqual(split(answers(joined(calls))), [[0]] + [[-1]] * 20 + [[40, 0, 2, 0]] * 19)
        calls = [winds([7] * 12), strong([40] * 12), winds([7] * 20), strong([40] * 20)] * 10
        self.assertEqual(split(answers(joined(calls))), [[12], [12], [-1], [-1]] * 10)

    def test_the_greatest_numbers(self):
        most = GREATEST
        calls = [begins(most, most), shoal(most), winds([most] * 20), strong([most] * 20), boat(*[most] * 5),
                 places(most, most), sail(most, most, most), change(most), check([most] * 100), check([most] * 2)]
        expected = [[-1], [-2], [-1], [-1], [-1], [-2], [-1], [-1], [-1], [-1]]
        self.assertEqual(split(answers(joined(calls * 4))), expected * 4)

    def test_soonest_forty_times(self):
        self.assertEqual(answers(soonest() * 40), [1, -6] * 40)
        calls = [begins(4, 4), sail(0, 40, 0), sail(0, 40, 0)] + [soonest()] * 37
        self.assertEqual(split(answers(joined(calls)))[3:], [[3, 3, 0, 3, 0, 3, 0]] * 37)

    def test_soonest_by_turns_with_what_changes_it(self):
        calls = [soonest(), sail(0, 5, 0), soonest(), strong([9]), soonest(), sail(9, 9, 3), soonest(), change(9),
                 soonest(), places(3, 0), soonest(), shoal(1), soonest(), winds([7]), soonest(), shoal(2), soonest(),
                 boat(9, 9, 9, 9, 9), soonest(), winds([3]), soonest(), begins(3, 2), soonest()]
        expected = [[-6], [0], [1, 3, 0], [1], [-6], [1], [4, 3, 1], [0], [13, 3, 1], [0], [13, 7, 1], [1], [13, 7, 1],
                    [1], [17, 6, 1, 0, 1], [2], [-6], [0], [-6], [1], [21, 7, 1], [0], [-6]]
        self.assertEqual(split(answers(joined(calls))), expected)

    def test_every_call_behind_every_other(self):
        calls = [begins(4, 2), shoal(2), winds([0, 1, 2]), strong([9, 8]), boat(4, 3, 2, 1, 0), places(1, 1),
                 sail(3, 4, 5), change(6), soonest(), check([7, 0]), check([])]
        alone = [[0], [1], [3], [2], [0], [0], [0], [0], [-6], [-1], [0, 0, 0, 0]]
        behind_another = {(1, 1): [-4], (5, 1): [1], (5, 8): [0], (5, 10): [0, 1, 0, 0], (6, 6): [1],
                          (6, 9): [-6, 0], (6, 10): [0, 0, 0, 1]}
        for one, call in enumerate(calls):
            for other, behind in enumerate(calls):
                second = behind_another.get((one, other), alone[other])
                self.assertEqual(split(answers(call + behind)), [alone[one], second], (call, behind))

    def test_what_is_handed_in_is_as_it_was(self):
        handed = Untouchable(joined(MANY))
        answers(handed)
        self.assertEqual(handed, joined(MANY))

    def test_keeps_nothing_from_one_time_to_the_next(self):
        first = answers(joined(MANY))
        self.assertEqual(answers(joined(MANY)), first)
        answers(joined([begins(4, 4), shoal(5), shoal(1), shoal(2)]))
        self.assertEqual(answers(joined([shoal(1), shoal(5), shoal(2), shoal(3)])), [1, 1, 1, -2, 1, 2, 1, -3])
        self.assertEqual(answers(joined(MANY)), first)

    def test_the_list_given_back_is_a_new_one(self):
        first = answers(shoal(1))
        first.append(5)
        self.assertEqual(answers(shoal(1)), [1, 1])

    def test_prints_nothing(self):
        printed = io.StringIO()
        with contextlib.redirect_stdout(printed), contextlib.redirect_stderr(printed):
            answers(joined(MANY))
        self.assertEqual(printed.getvalue(), "")

    def answered_as_told(self, drawn):
        """The program answers drawn calls as the model does, twice, and leaves what is handed in."""
        told = Told()
        expected = [getattr(told, name)(*numbers) for name, numbers in drawn]
        handed = Untouchable(joined(written(drawn)))
        for time in range(2):
            self.assertEqual(split(answers(handed)), expected, drawn)
        self.assertEqual(handed, joined(written(drawn)))
        return expected

    def test_lists_drawn_by_lot(self):
        lot = random.Random(20)
        seen = set()
        for number in range(1000):
            drawn = [drawn_call(lot, TEN_KINDS) for call in range(lot.choice((1, 2, 5, 20, 40)))]
            expected = self.answered_as_told(drawn)
            seen |= {(name, answer[0]) for (name, numbers), answer in zip(drawn, expected) if answer[0] < 0}
        self.assertEqual(seen, {
            ("begins", -1), ("shoal", -2), ("shoal", -3), ("shoal", -4), ("winds", -1), ("strong", -1), ("boat", -1),
            ("places", -2), ("places", -3), ("sail", -1), ("sail", -5), ("change", -1), ("soonest", -6), ("check", -1),
            ("check", -6)})

    def test_passages_drawn_by_lot_and_changed_under_way(self):
        lot = random.Random(21)
        changes = [name for name in TEN_KINDS if name not in ("begins", "soonest", "check")]
        for number in range(150):
            drawn = drawn_passage(lot)
            told = Told()
            for name, numbers in drawn:
                getattr(told, name)(*numbers)
            while len(drawn) < 37:
                call = drawn_call(lot, changes)
                getattr(told, call[0])(*call[1])
                drawn += [call, ("soonest", []), ("check", [drawn_voyage(lot, told)])]
            self.answered_as_told(drawn)


if __name__ == "__main__":
    unittest.main()
