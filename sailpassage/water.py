"""A passage, and the answers to the calls about it."""

BEGINS = 0
SHOAL = 1
WINDS = 2
STRONG = 3

# By the call's number: how many whole numbers it has. A call with a row has no others, and the row tells how many.
NUMBERS = (2, 1, 0, 0, 5)

OUT_OF_BOUNDS = -1
NO_SUCH_CELL = -2
CELL_TAKEN = -3
SHOAL_ALREADY = -4

LEAST_CELLS = 2
MOST_CELLS = 4
LONGEST_ROW = 12
LAST_HEADING = 7
GREATEST_STRENGTH = 40
MOST_MINUTES = 9


def is_extent(cells):
    """Whether a water can be so many cells wide or high."""
    return LEAST_CELLS <= cells and cells <= MOST_CELLS


def is_row(row, greatest):
    """Whether the wind, or how strong it blows, can be told by this row."""
    return len(row) <= LONGEST_ROW and max(row, default=0) <= greatest


class Passage:
    """A water with its shoals, the wind over it, the boat and the mark."""

    def __init__(self):
        self.lay(LEAST_CELLS, LEAST_CELLS)

    def lay(self, wide, high):
        """Make everything as it is at the beginning, on a water of this size."""
        self.wide = wide
        self.high = high
        self.shoals = {}
        self.wind_row = []
        self.strength_row = []
        self.step_minutes = [1, 1, 1, 1]
        self.turn_minutes = 0
        self.change_minutes = 0
        self.sails = []
        self.boat_cell = 0
        self.mark_cell = wide * high - 1

    def begins(self, wide, high):
        if not is_extent(wide) or not is_extent(high):
            return OUT_OF_BOUNDS
        self.lay(wide, high)
        return 0

    def shoal(self, cell):
        if cell >= self.wide * self.high:
            return NO_SUCH_CELL
        if cell == self.boat_cell or cell == self.mark_cell:
            return CELL_TAKEN
        if cell in self.shoals:
            return SHOAL_ALREADY
        self.shoals[cell] = True
        return len(self.shoals)

    def winds(self, row):
        if not is_row(row, LAST_HEADING):
            return OUT_OF_BOUNDS
        self.wind_row = list(row)
        return len(row)

    def strong(self, row):
        if not is_row(row, GREATEST_STRENGTH):
            return OUT_OF_BOUNDS
        self.strength_row = list(row)
        return len(row)

    def boat(self, steps, turn):
        """Take the minutes of a step for the points 1 to 4, in this order, and a turn's."""
        if min(steps) < 1 or max(steps) > MOST_MINUTES or turn > MOST_MINUTES:
            return OUT_OF_BOUNDS
        self.step_minutes = list(steps)
        self.turn_minutes = turn
        return 0


def has_row(call):
    """Whether what the call is about is one row."""
    return call == WINDS or call == STRONG


def numbers_start(calls, place):
    """Where the numbers begin of the call at this place: a row's count isn't one of them."""
    if has_row(calls[place]):
        return place + 2
    return place + 1


def numbers_end(calls, place):
    """The place behind the last number of the call at this place."""
    start = numbers_start(calls, place)
    if has_row(calls[place]):
        return start + calls[start - 1]
    return start + NUMBERS[calls[place]]


def answer_to(passage, call, numbers):
    """What is answered to one call, as a list."""
    if call == BEGINS:
        return [passage.begins(numbers[0], numbers[1])]
    if call == SHOAL:
        return [passage.shoal(numbers[0])]
    if call == WINDS:
        return [passage.winds(numbers)]
    if call == STRONG:
        return [passage.strong(numbers)]
    return [passage.boat(numbers[:4], numbers[4])]


def answers_about(passage, calls):
    """The answers to the calls about this passage, each with how many numbers it has before it."""
    given = []
    place = 0
    while place < len(calls):
        end = numbers_end(calls, place)
        numbers = calls[numbers_start(calls, place):end]
        answered = answer_to(passage, calls[place], numbers)
        given.append(len(answered))
        given.extend(answered)
        place = end
    return given


def answers(calls):
    """The answers to a list of calls, about a passage that is new."""
    return answers_about(Passage(), calls)
