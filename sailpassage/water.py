"""A passage, and the answers to the calls about it."""

BEGINS = 0
SHOAL = 1
WINDS = 2
STRONG = 3
BOAT = 4
PLACES = 5
SAIL = 6
CHANGE = 7
SOONEST = 8
CHECK = 9

# By the call's number: how many whole numbers it has. A call with a row has no others, and the row tells how many.
NUMBERS = (2, 1, 0, 0, 5, 2, 3, 1, 0, 0)

OUT_OF_BOUNDS = -1
NO_SUCH_CELL = -2
CELL_TAKEN = -3
SHOAL_ALREADY = -4
SAILS_FULL = -5
CANNOT_BE_DONE = -6

LEAST_CELLS = 2
MOST_CELLS = 4
LONGEST_ROW = 12
EIGHTHS = 8
GREATEST_STRENGTH = 40
MOST_MINUTES = 9
MOST_SAILS = 3
LAST_MINUTE = 40
MOST_STEPS = 40

# By the heading: how many cells a step goes to the right, and how many down.
RIGHTWARD = (0, 1, 1, 1, 0, -1, -1, -1)
DOWNWARD = (-1, -1, 0, 1, 1, 1, 0, -1)

NO_SIDE = 0
SIDE_ON = 1
SIDE_BACK = 2

# Where a sail, which is a tuple, has its numbers.
LEAST = 0
GREATEST = 1
SLOW = 2

# Where a stand has its numbers: a tuple of how far a way has got. Check answers them in this order.
MINUTE = 0
CELL = 1
SIDE = 2
SAIL_SET = 3


def is_extent(cells):
    """Whether a water can be so many cells wide or high."""
    return LEAST_CELLS <= cells and cells <= MOST_CELLS


def is_row(row, greatest):
    """Whether the wind, or how strong it blows, can be told by this row."""
    return len(row) <= LONGEST_ROW and max(row, default=0) <= greatest


def told_at(row, minute):
    """What a row tells of this minute: it comes round again, and an empty one always tells 0."""
    if len(row) == 0:
        return 0
    return row[minute % len(row)]


def point_of(eighths):
    """The point of a heading that is so many eighths on from the wind."""
    return min(eighths, EIGHTHS - eighths)


def side_of(eighths):
    """The side of a heading that is so many eighths on from the wind."""
    if eighths == 0 or 2 * eighths == EIGHTHS:
        return NO_SIDE
    if 2 * eighths < EIGHTHS:
        return SIDE_ON
    return SIDE_BACK


def stands(sail, strength):
    """Whether the sail stands when it blows so strong."""
    return sail[LEAST] <= strength and strength <= sail[GREATEST]


def keep_earlier(ways, stand, way):
    """Keep the way for its stand, unless an earlier one is kept.

    Whatever goes on from a stand goes on so behind every way to it: only the earliest can become the earliest of all.
    """
    if stand not in ways or way < ways[stand]:
        ways[stand] = way


class Step:
    """A step with the wind and the strength of one minute, wherever there is room for it."""

    def __init__(self, heading, with_sail, side, minutes):
        self.heading = heading
        self.with_sail = with_sail
        self.side = side
        self.minutes = minutes

    def turns(self, side):
        """Whether a boat that has this side has to turn."""
        return side != NO_SIDE and self.side != NO_SIDE and side != self.side

    def side_behind(self, side):
        """The side that a boat has behind the step, if it had this one before."""
        if self.side == NO_SIDE:
            return side
        return self.side


class Passage:
    """A water with its shoals, the wind over it, the boat and the mark."""

    def __init__(self):
        self.lay(LEAST_CELLS, LEAST_CELLS)

    def lay(self, wide, high):
        """Make everything as it is at the beginning, on a water of this size."""
        self.wide = wide
        self.high = high
        self.shoals = {}
        self.wind_row = []
        self.strength_row = []
        self.step_minutes = [1, 1, 1, 1]
        self.turn_minutes = 0
        self.change_minutes = 0
        self.sails = []
        self.boat_cell = 0
        self.mark_cell = wide * high - 1

    def begins(self, wide, high):
        if not is_extent(wide) or not is_extent(high):
            return OUT_OF_BOUNDS
        self.lay(wide, high)
        return 0

    def shoal(self, cell):
        if not self.has_cell(cell):
            return NO_SUCH_CELL
        if cell == self.boat_cell or cell == self.mark_cell:
            return CELL_TAKEN
        if cell in self.shoals:
            return SHOAL_ALREADY
        self.shoals[cell] = True
        return len(self.shoals)

    def winds(self, row):
        if not is_row(row, EIGHTHS - 1):
            return OUT_OF_BOUNDS
        self.wind_row = list(row)
        return len(row)

    def strong(self, row):
        if not is_row(row, GREATEST_STRENGTH):
            return OUT_OF_BOUNDS
        self.strength_row = list(row)
        return len(row)

    def boat(self, steps, turn):
        """Take the minutes of a step for the points 1 to 4, in this order, and a turn's."""
        if min(steps) < 1 or max(steps) > MOST_MINUTES or turn > MOST_MINUTES:
            return OUT_OF_BOUNDS
        self.step_minutes = list(steps)
        self.turn_minutes = turn
        return 0

    def places(self, boat, mark):
        if not self.has_cell(boat) or not self.has_cell(mark):
            return NO_SUCH_CELL
        if boat in self.shoals or mark in self.shoals:
            return CELL_TAKEN
        self.boat_cell = boat
        self.mark_cell = mark
        return 0

    def sail(self, least, greatest, slow):
        if greatest > GREATEST_STRENGTH or least > greatest or slow > MOST_MINUTES:
            return OUT_OF_BOUNDS
        if len(self.sails) == MOST_SAILS:
            return SAILS_FULL
        self.sails.append((least, greatest, slow))
        return len(self.sails) - 1

    def change(self, minutes):
        if minutes > MOST_MINUTES:
            return OUT_OF_BOUNDS
        self.change_minutes = minutes
        return 0

    def soonest(self):
        """The minute at which the soonest way gets there and the earliest such way, as one list."""
        ways = [{} for minute in range(LAST_MINUTE + 1)]
        ways[0][self.first_stand()] = []
        for minute in range(LAST_MINUTE + 1):
            ended = [way for stand, way in ways[minute].items() if stand[CELL] == self.mark_cell]
            if len(ended) > 0:
                return [minute] + min(ended)
            self.lengthen(ways, minute)
        return [CANNOT_BE_DONE]

    def check(self, way):
        """How far the way gets, as a list, or the first step of it that can't be done."""
        if not self.is_way(way):
            return [OUT_OF_BOUNDS]
        stand = self.first_stand()
        for number in range(len(way) // 2):
            step = self.step_at(stand[MINUTE], way[2 * number], way[2 * number + 1])
            if step is None or not self.has_room(stand[CELL], step.heading):
                return [CANNOT_BE_DONE, number]
            stand = self.stand_behind(stand, step)
        return list(stand)

    def has_cell(self, cell):
        return cell < self.wide * self.high

    def is_way(self, way):
        """Whether these numbers tell a way, be it one that can be sailed or not."""
        if len(way) > 2 * MOST_STEPS:
            return False
        return max(way[0::2], default=0) < EIGHTHS and max(way[1::2], default=-1) < len(self.sails)

    def first_stand(self):
        return (0, self.boat_cell, NO_SIDE, len(self.sails))

    def has_room(self, cell, heading):
        """Whether a step can go so from the cell, whatever the wind."""
        column = cell % self.wide + RIGHTWARD[heading]
        line = cell // self.wide + DOWNWARD[heading]
        if column < 0 or column >= self.wide or line < 0 or line >= self.high:
            return False
        return self.cell_behind(cell, heading) not in self.shoals

    def cell_behind(self, cell, heading):
        """The cell that a step goes to, where there is room for it."""
        return cell + DOWNWARD[heading] * self.wide + RIGHTWARD[heading]

    def step_at(self, minute, heading, number):
        """The step that begins then with the sail of this number, or None if wind or strength forbid it."""
        eighths = (heading - told_at(self.wind_row, minute)) % EIGHTHS
        sail = self.sails[number]
        if eighths == 0 or not stands(sail, told_at(self.strength_row, minute)):
            return None
        minutes = self.step_minutes[point_of(eighths) - 1] + sail[SLOW]
        return Step(heading, number, side_of(eighths), minutes)

    def steps_at(self, minute):
        """Every step that wind and strength let begin at this minute."""
        steps = []
        for heading in range(EIGHTHS):
            for number in range(len(self.sails)):
                step = self.step_at(minute, heading, number)
                if step is not None:
                    steps.append(step)
        return steps

    def stand_behind(self, stand, step):
        """How far a way has got that is at the stand and takes the step."""
        minute = stand[MINUTE] + step.minutes
        if step.turns(stand[SIDE]):
            minute += self.turn_minutes
        if step.with_sail != stand[SAIL_SET]:
            minute += self.change_minutes
        cell = self.cell_behind(stand[CELL], step.heading)
        return (minute, cell, step.side_behind(stand[SIDE]), step.with_sail)

    def lengthen(self, ways, minute):
        """Keep, for the later minutes, each way that has got to this minute with every step that it can take."""
        steps = self.steps_at(minute)
        for stand, way in list(ways[minute].items()):
            for step in steps:
                if self.has_room(stand[CELL], step.heading):
                    later = self.stand_behind(stand, step)
                    if later[MINUTE] <= LAST_MINUTE:
                        keep_earlier(ways[later[MINUTE]], later, way + [step.heading, step.with_sail])


def has_row(call):
    """Whether what the call is about is one row."""
    return call in (WINDS, STRONG, CHECK)


def numbers_start(calls, place):
    """Where the numbers begin of the call at this place: a row's count isn't one of them."""
    if has_row(calls[place]):
        return place + 2
    return place + 1


def numbers_end(calls, place):
    """The place behind the last number of the call at this place."""
    start = numbers_start(calls, place)
    if has_row(calls[place]):
        return start + calls[start - 1]
    return start + NUMBERS[calls[place]]


def answer_to(passage, call, numbers):
    """What is answered to one call, as a list."""
    if call == BEGINS:
        return [passage.begins(numbers[0], numbers[1])]
    if call == SHOAL:
        return [passage.shoal(numbers[0])]
    if call == WINDS:
        return [passage.winds(numbers)]
    if call == STRONG:
        return [passage.strong(numbers)]
    if call == BOAT:
        return [passage.boat(numbers[:4], numbers[4])]
    if call == PLACES:
        return [passage.places(numbers[0], numbers[1])]
    if call == SAIL:
        return [passage.sail(numbers[0], numbers[1], numbers[2])]
    if call == CHANGE:
        return [passage.change(numbers[0])]
    if call == SOONEST:
        return passage.soonest()
    return passage.check(numbers)


def answers_about(passage, calls):
    """The answers to the calls about this passage, each with how many numbers it has before it."""
    given = []
    place = 0
    while place < len(calls):
        end = numbers_end(calls, place)
        numbers = calls[numbers_start(calls, place):end]
        answered = answer_to(passage, calls[place], numbers)
        given.append(len(answered))
        given.extend(answered)
        place = end
    return given


def answers(calls):
    """The answers to a list of calls, about a passage that is new."""
    return answers_about(Passage(), calls)
