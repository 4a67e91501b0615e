"""The words of the document once more, written another way, to hold the program against."""

import functools

from told import GREATEST, begins, boat, change, check, places, sail, shoal, soonest, strong, winds

WRITTEN = {
    "begins": begins, "shoal": shoal, "winds": winds, "strong": strong, "boat": boat, "places": places, "sail": sail,
    "change": change, "soonest": soonest, "check": check,
}

TOWARDS = [(0, -1), (1, -1), (1, 0), (1, 1), (0, 1), (-1, 1), (-1, 0), (-1, -1)]
# By how many eighths a heading is on from the wind: its point and its side.
POINT_AND_SIDE = [(0, 0), (1, 1), (2, 1), (3, 1), (4, 0), (3, 2), (2, 2), (1, 2)]


class Told:
    """A passage that answers each call with a list."""

    def __init__(self):
        self.begins(2, 2)

    def begins(self, wide, high):
        if not {wide, high} <= {2, 3, 4}:
            return [-1]
        self.spots = [(x, y) for y in range(high) for x in range(wide)]
        self.shoals = set()
        self.wind_row = (0,)
        self.strength_row = (0,)
        self.minutes = (1, 1, 1, 1, 0)
        self.sails = ()
        self.change_minutes = 0
        self.boat_spot, self.mark_spot = self.spots[0], self.spots[-1]
        return [0]

    def shoal(self, cell):
        if cell not in range(len(self.spots)):
            return [-2]
        spot = self.spots[cell]
        if spot in (self.boat_spot, self.mark_spot):
            return [-3]
        if spot in self.shoals:
            return [-4]
        self.shoals |= {spot}
        return [len(self.shoals)]

    def winds(self, row):
        if len(row) > 12 or not set(row) <= set(range(8)):
            return [-1]
        self.wind_row = tuple(row) or (0,)
        return [len(row)]

    def strong(self, row):
        if len(row) > 12 or not set(row) <= set(range(41)):
            return [-1]
        self.strength_row = tuple(row) or (0,)
        return [len(row)]

    def boat(self, *minutes):
        if not set(minutes[:4]) <= set(range(1, 10)) or minutes[4] not in range(10):
            return [-1]
        self.minutes = minutes
        return [0]

    def places(self, *cells):
        if not set(cells) <= set(range(len(self.spots))):
            return [-2]
        spots = [self.spots[cell] for cell in cells]
        if self.shoals & set(spots):
            return [-3]
        self.boat_spot, self.mark_spot = spots
        return [0]

    def sail(self, least, greatest, slow):
        if not least <= greatest <= 40 or slow not in range(10):
            return [-1]
        if len(self.sails) > 2:
            return [-5]
        self.sails += ((range(least, greatest + 1), slow),)
        return [len(self.sails) - 1]

    def change(self, minutes):
        if minutes not in range(10):
            return [-1]
        self.change_minutes = minutes
        return [0]

    def start(self):
        return 0, self.boat_spot, 0, None

    def step(self, minute, spot, side, is_set, heading, number):
        """The minute, the spot, the side and the sail behind a step; None if it can't be done."""
        spot = spot[0] + TOWARDS[heading][0], spot[1] + TOWARDS[heading][1]
        wind = self.wind_row[minute % len(self.wind_row)]
        strength = self.strength_row[minute % len(self.strength_row)]
        strengths, slow = self.sails[number]
        if spot not in self.spots or spot in self.shoals or heading == wind or strength not in strengths:
            return None
        point, its_side = POINT_AND_SIDE[heading - wind]
        minute += self.minutes[point - 1] + slow
        minute += self.minutes[4] if {side, its_side} == {1, 2} else 0
        minute += 0 if number == is_set else self.change_minutes
        return minute, spot, its_side or side, number

    def steps(self):
        return [(heading, number) for heading in range(8) for number in range(len(self.sails))]

    def soonest(self):
        """From the mark backward, by what is the best that a boat can do from where it is."""
        @functools.lru_cache(None)
        def best(minute, spot, side, is_set):
            if minute > 40:
                return 41, ()
            if spot == self.mark_spot:
                return minute, ()
            ends = [(41, ())]
            for step in self.steps():
                behind = self.step(minute, spot, side, is_set, *step)
                if behind is not None:
                    end, way = best(*behind)
                    ends.append((end, step + way))
            return min(ends)

        end, way = best(*self.start())
        return [-6] if end > 40 else [end, *way]

    def plain_soonest(self):
        """The same by walking all ways, one behind another, with nothing left out but what is too late."""
        found = [[41]]
        ways = [(self.start(), [])]
        while ways:
            at, way = ways.pop()
            if at[1] == self.mark_spot:
                found.append([at[0], *way])
            elif at[0] < min(found)[0]:
                behind = [(self.step(*at, *step), way + [*step]) for step in self.steps()]
                ways += [(at, way) for at, way in behind if at is not None]
        return min(found) if min(found)[0] <= 40 else [-6]

    def check(self, way):
        steps = list(zip(way[::2], way[1::2]))
        if len(steps) > 40 or not set(steps) <= set(self.steps()):
            return [-1]
        at = self.start()
        for place, step in enumerate(steps):
            at = self.step(*at, *step)
            if at is None:
                return [-6, place]
        return [at[0], self.spots.index(at[1]), at[2], len(self.sails) if at[3] is None else at[3]]


def often(lot, usual, seldom):
    return lot.choice(seldom) if lot.random() < 0.04 else usual


def drawn_row(lot, most):
    length = often(lot, lot.randint(0, 12), (0, 12, 13, 20))
    return [often(lot, lot.randint(0, most), (most, most + 1, GREATEST)) for number in range(length)]


def drawn_way(lot):
    length = often(lot, lot.choice((0, 1, 2, 3, 4, 6)), (39, 40, 41, 50))
    way = []
    for step in range(length):
        way += [often(lot, lot.randint(0, 7), (8, GREATEST)), often(lot, lot.randint(0, 2), (3, GREATEST))]
    return way


def drawn_numbers(lot, name):
    """What a call of this name is asked with."""
    if name == "begins":
        return [often(lot, lot.randint(2, 4), (0, 1, 5, GREATEST)) for side in range(2)]
    if name == "shoal":
        return [often(lot, lot.randint(0, 11), (15, 16, GREATEST))]
    if name in ("winds", "strong"):
        return [drawn_row(lot, 7 if name == "winds" else 40)]
    if name == "boat":
        most = lot.choice((2, 3, 9))
        return [often(lot, lot.randint(1, most), (0, 9, 10, GREATEST)) for number in range(5)]
    if name == "places":
        return [often(lot, lot.randint(0, 8), (15, 16, GREATEST)) for place in range(2)]
    if name == "sail":
        strengths = sorted((lot.randint(0, 20), lot.randint(10, 40)))
        return [often(lot, value, (0, 40, 41, GREATEST)) for value in strengths] + [
            often(lot, lot.randint(0, 3), (9, 10, GREATEST))]
    if name == "change":
        return [often(lot, lot.randint(0, 4), (0, 9, 10, GREATEST))]
    if name == "check":
        return [drawn_way(lot)]
    return []


def drawn_call(lot, names):
    """A call's name and what it is asked with."""
    name = lot.choice(names)
    return name, drawn_numbers(lot, name)


def drawn_passage(lot, sizes=(2, 3, 4), least=1, most_sails=3):
    """Calls that make a passage on which something can be sailed, mostly; a step takes this least or more."""
    wide, high = lot.choice(sizes), lot.choice(sizes)
    ends = lot.choice(([0, wide * high - 1], [wide * high - 1, 0], lot.sample(range(wide * high), 2)))
    drawn = [("begins", [wide, high]), ("places", ends)]
    between = [cell for cell in range(wide * high) if cell not in ends]
    drawn += [("shoal", [cell]) for cell in lot.sample(between, lot.randint(0, len(between) // 2))]
    most = lot.choice((least, least + 1, 9))
    drawn.append(("boat", [lot.randint(least, most) for point in range(4)] + [lot.choice((0, 1, 3, 9))]))
    drawn.append(("winds", [[lot.randint(0, 7) for number in range(lot.randint(0, 12))]]))
    drawn.append(("strong", [[lot.choice((5, 20, 35)) for number in range(lot.randint(0, 12))]]))
    for number in range(lot.randint(1, most_sails)):
        drawn.append(("sail", [lot.choice((0, 0, 5, 6)), lot.choice((19, 20, 40)), lot.choice((0, 0, 1, 4))]))
    return drawn + [("change", [lot.choice((0, 0, 1, 2, 9))])]


def drawn_voyage(lot, told):
    """A way about a passage, of steps that can be done, but for some that are drawn blindly."""
    at = told.start()
    way = []
    for place in range(lot.choice((1, 2, 5, 12, 40))):
        can_be_done = [step for step in told.steps() if told.step(*at, *step) is not None]
        step = lot.choice(can_be_done if can_be_done and lot.random() > 0.01 else told.steps())
        way += step
        at = told.step(*at, *step) or at
    return way


def written(drawn):
    """Drawn calls, each as it is handed in."""
    return [WRITTEN[name](*numbers) for name, numbers in drawn]
