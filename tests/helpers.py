"""What the tests share: made-up yards, and a second way to follow the water.

The second way goes tub by tub over all hours instead of hour by hour over all
tubs, and decides by what would be gained just above and just beneath the
water's height, so that it shares no step with the package.
"""

import random
from fractions import Fraction

NAMES = ("a", "tub", "zzzzzzzz")


def as_fraction(pair):
    return Fraction(pair[0], pair[1])


def as_pair(number):
    number = Fraction(number)
    return (number.numerator, number.denominator)


class Steps:
    """Rates that change at hours: a list of (hour, rate), each from its hour on."""

    def __init__(self, rows):
        self.rows = [(Fraction(hour), rate) for hour, rate in rows]

    def at(self, hour):
        return [rate for start, rate in self.rows if start <= hour][-1]

    def total(self, hour):
        ends = [start for start, rate in self.rows[1:]] + [hour]
        spans = [(min(end, hour) - start, rate) for (start, rate), end in zip(self.rows, ends)]
        return sum([span * rate for span, rate in spans if span > 0], Fraction(0))


def added(many):
    hours = sorted({start for steps in many for start, rate in steps.rows})
    return Steps([(hour, sum(steps.at(hour) for steps in many)) for hour in hours])


class Followed:
    """One tub, followed under what comes into it: path holds (hour, level, gain)."""

    def __init__(self, tub, comes, level):
        self.name, self.ground, self.holes = tub
        self.path = []
        self.lets = [[] for hole in self.holes]
        hours = [start for start, rate in comes.rows] + [None]
        for (hour, rate), end in zip(comes.rows, hours[1:]):
            level = self.follow(hour, end, rate, level)

    def follow(self, hour, end, comes, level):
        while end is None or hour < end:
            up = comes - sum(rate for height, rate, into in self.holes if height <= level)
            down = comes - sum(rate for height, rate, into in self.holes if height < level)
            gain = up if up > 0 else min(down, 0)
            self.note(hour, level, gain, down)
            if gain > 0:
                met = [height for height, rate, into in self.holes if height > level][:1]
            else:
                met = [height for height, rate, into in self.holes if height < level and gain < 0][-1:]
            reached = hour + Fraction((met[0] - level) * self.ground) / gain if met else None
            if reached is None or (end is not None and reached >= end):
                return level if end is None else level + (end - hour) * Fraction(gain, self.ground)
            hour, level = reached, Fraction(met[0])
        return level

    def note(self, hour, level, gain, down):
        self.path.append((hour, level, gain))
        for rows, (height, rate, into) in zip(self.lets, self.holes):
            at_hole = rate if gain > 0 else max(down, 0)
            rows.append((hour, rate if height < level else at_hole if height == level else 0))

    def height(self, hour):
        start, level, gain = [row for row in self.path if row[0] <= hour][-1]
        return level + (hour - start) * Fraction(gain, self.ground)

    def turns(self):
        return [after[0] for before, after in zip(self.path, self.path[1:]) if before[2] != after[2]]


def follow(tubs, weather, beginning):
    """All tubs, followed one by one."""
    into_tub = {name: [Steps([(hour, rain[at]) for hour, rain in weather])]
                for at, (name, ground, holes) in enumerate(tubs)}
    told = []
    for tub, level in zip(tubs, beginning):
        one = Followed(tub, added(into_tub[tub[0]]), as_fraction(level))
        for (height, rate, into), rows in zip(tub[2], one.lets):
            if into != "":
                into_tub[into].append(Steps(rows))
        told.append(one)
    return told


def followed_turns(tubs, weather, beginning):
    rows = [(hour, at, one.name) for at, one in enumerate(follow(tubs, weather, beginning)) for hour in one.turns()]
    return [(as_pair(hour), name) for hour, at, name in sorted(rows)]


def all_holes(tubs):
    return [(name, hole[0]) for name, ground, holes in tubs for hole in holes]


def any_tubs(chance, ground=4, height=6, rate=4):
    """Small numbers, so that many things fall together."""
    names = NAMES[:chance.randint(1, 3)]
    tubs = []
    for at, name in enumerate(names):
        rows = sorted(chance.sample(range(height), chance.randint(0, min(3, height))))
        ways = ("",) + names[at + 1:] * 2
        holes = tuple((row, chance.randint(1, rate), chance.choice(ways)) for row in rows)
        tubs.append((name, chance.randint(1, ground), holes))
    return tuple(tubs)


def any_rain(chance, tubs, most=6):
    return tuple(chance.choice((0, chance.randint(0, most))) for tub in tubs)


def any_weather(chance, tubs, most=6, last=9):
    hours = [0] + sorted(chance.sample(range(1, last + 1), chance.randint(0, 3)))
    return tuple((hour, any_rain(chance, tubs, most)) for hour in hours)


def any_beginning(chance, tubs, most=8):
    return tuple(as_pair(Fraction(chance.randint(0, most * 2), chance.choice((1, 1, 2, 3)))) for tub in tubs)


def any_yard(chance):
    tubs = any_tubs(chance)
    return tubs, any_weather(chance, tubs), any_beginning(chance, tubs)


def many_yards(count, seed):
    chance = random.Random(seed)
    return [any_yard(chance) for at in range(count)]


def telling_hours(tubs, weather, beginning):
    """Hour 0, all turns and changes of weather, the hours midway, and some far behind."""
    marks = {Fraction(0), Fraction(1, 7)} | {Fraction(hour) for hour, rain in weather}
    marks |= {as_fraction(hour) for hour, name in followed_turns(tubs, weather, beginning)}
    marks = sorted(marks)
    midway = [(one + other) / 2 for one, other in zip(marks, marks[1:])]
    return [as_pair(hour) for hour in sorted(marks + midway + [marks[-1] + 1, marks[-1] + Fraction(10 ** 39, 3)])]
