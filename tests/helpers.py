"""What the tests share: made-up yards, and a second way to follow the water.

The second way goes tub by tub over all hours instead of hour by hour over all
tubs, and decides by what would be gained just above and just beneath the
water's height, so that it shares no step with the package.
"""

import random
from fractions import Fraction

NAMES = ("a", "tub", "zzzzzzzz")
FORTY = 10 ** 40 - 1


def as_fraction(pair):
    return Fraction(pair[0], pair[1])


def as_pair(number):
    number = Fraction(number)
    return (number.numerator, number.denominator)


class Steps:
    """Rates that change at hours: a list of (hour, rate), each from its hour on."""

    def __init__(self, rows):
        self.rows = [(Fraction(hour), rate) for hour, rate in rows]

    def at(self, hour):
        return [rate for start, rate in self.rows if start <= hour][-1]

    def total(self, hour):
        ends = [start for start, rate in self.rows[1:]] + [hour]
        spans = [(min(end, hour) - start, rate) for (start, rate), end in zip(self.rows, ends)]
        return sum([span * rate for span, rate in spans if span > 0], Fraction(0))


def added(many):
    hours = sorted({start for steps in many for start, rate in steps.rows})
    return Steps([(hour, sum(steps.at(hour) for steps in many)) for hour in hours])


class Followed:
    """One tub, followed under what comes into it: path holds (hour, level, gain)."""

    def __init__(self, tub, comes, level):
        self.name, self.ground, self.holes = tub
        self.path = []
        self.lets = [[] for hole in self.holes]
        hours = [start for start, rate in comes.rows] + [None]
        for (hour, rate), end in zip(comes.rows, hours[1:]):
            level = self.follow(hour, end, rate, level)

    def follow(self, hour, end, comes, level):
        while end is None or hour < end:
            up = comes - sum(rate for height, rate, into in self.holes if height <= level)
            down = comes - sum(rate for height, rate, into in self.holes if height < level)
            gain = up if up > 0 else min(down, 0)
            self.note(hour, level, gain, down)
            if gain > 0:
                met = [height for height, rate, into in self.holes if height > level][:1]
            else:
                met = [height for height, rate, into in self.holes if height < level and gain < 0][-1:]
            reached = hour + Fraction((met[0] - level) * self.ground) / gain if met else None
            if reached is None or (end is not None and reached >= end):
                return level if end is None else level + (end - hour) * Fraction(gain, self.ground)
            hour, level = reached, Fraction(met[0])
        return level

    def note(self, hour, level, gain, down):
        self.path.append((hour, level, gain))
        for rows, (height, rate, into) in zip(self.lets, self.holes):
            at_hole = rate if gain > 0 else max(down, 0)
            rows.append((hour, rate if height < level else at_hole if height == level else 0))

    def height(self, hour):
        start, level, gain = [row for row in self.path if row[0] <= hour][-1]
        return level + (hour - start) * Fraction(gain, self.ground)

    def turns(self):
        return [after[0] for before, after in zip(self.path, self.path[1:]) if before[2] != after[2]]


def follow(tubs, weather, beginning):
    """All tubs, followed one by one."""
    into_tub = {name: [Steps([(hour, rain[at]) for hour, rain in weather])]
                for at, (name, ground, holes) in enumerate(tubs)}
    told = []
    for tub, level in zip(tubs, beginning):
        one = Followed(tub, added(into_tub[tub[0]]), as_fraction(level))
        for (height, rate, into), rows in zip(tub[2], one.lets):
            if into != "":
                into_tub[into].append(Steps(rows))
        told.append(one)
    return told


class Ended:
    """What the second way comes to in the end, under one rain, from a dry beginning."""

    def __init__(self, tubs, rain):
        self.followed = dict(zip([tub[0] for tub in tubs], follow(tubs, ((0, rain),), ((0, 1),) * len(tubs))))
        self.rain = dict(zip(self.followed, rain))
        self.ways = [(name, hole) for name, ground, holes in tubs for hole in holes]

    def lets(self, hole):
        one = self.followed[hole[0]]
        return one.lets[[row[0] for row in one.holes].index(hole[1])][-1][1]

    def comes(self, name):
        return self.rain[name] + sum([self.lets((tub, row[0])) for tub, row in self.ways if row[2] == name])

    def reaches(self, name, height):
        """Whether the tub rises for ever, or stands at the height or above; from dry none stands higher than by
        any other beginning."""
        hour, level, gain = self.followed[name].path[-1]
        return gain > 0 or level >= height


def plugged(tubs, plugs):
    return tuple((name, ground, tuple(hole for hole in holes if (name, hole[0]) not in plugs))
                 for name, ground, holes in tubs)


def times_wider(tubs, many):
    """Grounds and rates so many times as great."""
    return tuple((name, ground * many, tuple((height, rate * many, into) for height, rate, into in holes))
                 for name, ground, holes in tubs)


def times_higher(tubs, many):
    """Heights of holes so many times as great."""
    return tuple((name, ground, tuple((height * many, rate, into) for height, rate, into in holes))
                 for name, ground, holes in tubs)


def followed_turns(tubs, weather, beginning):
    rows = [(hour, at, one.name) for at, one in enumerate(follow(tubs, weather, beginning)) for hour in one.turns()]
    return [(as_pair(hour), name) for hour, at, name in sorted(rows)]


def all_holes(tubs):
    return [(name, hole[0]) for name, ground, holes in tubs for hole in holes]


def any_tubs(chance, ground=4, height=6, rate=4):
    """Small numbers, so that many things fall together."""
    names = NAMES[:chance.randint(1, 3)]
    tubs = []
    for at, name in enumerate(names):
        rows = sorted(chance.sample(range(height), chance.randint(0, min(3, height))))
        ways = ("",) + names[at + 1:] * 2
        holes = tuple((row, chance.randint(1, rate), chance.choice(ways)) for row in rows)
        tubs.append((name, chance.randint(1, ground), holes))
    return tuple(tubs)


def any_rain(chance, tubs, most=6):
    return tuple(chance.choice((0, chance.randint(0, most))) for tub in tubs)


def any_weather(chance, tubs, most=6, last=9):
    hours = [0] + sorted(chance.sample(range(1, last + 1), chance.randint(0, 3)))
    return tuple((hour, any_rain(chance, tubs, most)) for hour in hours)


def any_beginning(chance, tubs, most=8):
    return tuple(as_pair(Fraction(chance.randint(0, most * 2), chance.choice((1, 1, 2, 3)))) for tub in tubs)


def any_yard(chance):
    tubs = any_tubs(chance)
    return tubs, any_weather(chance, tubs), any_beginning(chance, tubs)


def many_rained(count, seed, **bounds):
    """Tubs with a rain each."""
    chance = random.Random(seed)
    told = [any_tubs(chance, **bounds) for at in range(count)]
    return [(tubs, any_rain(chance, tubs)) for tubs in told]


def many_yards(count, seed):
    chance = random.Random(seed)
    return [any_yard(chance) for at in range(count)]


def telling_hours(tubs, weather, beginning):
    """Hour 0, all turns and changes of weather, the hours midway, and some far behind."""
    marks = {Fraction(0), Fraction(1, 7)} | {Fraction(hour) for hour, rain in weather}
    marks |= {as_fraction(hour) for hour, name in followed_turns(tubs, weather, beginning)}
    marks = sorted(marks)
    midway = [(one + other) / 2 for one, other in zip(marks, marks[1:])]
    return [as_pair(hour) for hour in sorted(marks + midway + [marks[-1] + 1, marks[-1] + Fraction(10 ** 39, 3)])]


def nested(depth, kind, inmost):
    thing = inmost
    for at in range(depth):
        thing = kind([thing])
    return thing


def any_thing(chance, depth):
    if depth == 0 or chance.random() < 0.4:
        return chance.choice((0, 1, -1, 7, 1000, FORTY, -FORTY, 0.5, 1.0, "", "a", "b", "tub", "a b\n~", "A", True,
                              False, None, (), [], (0, 1), (1, 2), ("a", 1, ()), (3, 1, "")))
    parts = [any_thing(chance, depth - 1) for at in range(chance.randint(0, 4))]
    return chance.choice((list, tuple))(parts)


def changed(chance, thing):
    """The same with one part, at any depth, put in another's place."""
    if not isinstance(thing, tuple) or not thing or chance.random() < 0.15:
        return any_thing(chance, 2)
    parts = list(thing)
    at = chance.randrange(len(parts))
    parts[at] = changed(chance, parts[at])
    return tuple(parts)
