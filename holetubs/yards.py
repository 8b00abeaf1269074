"""A yard: tubs that go on hour by hour, under rain and plugs that change, and back again.

How a yard stands is a tuple (hour, rain, levels, plugs, went): went has for
each hole what went through it in all. It is never changed; each deed puts
another one in its place, so that taking back is going back to the one before.
"""

from holetubs.errors import NoHeight, NoHole, NoHours, NoName, NoRain, NoTubs, NothingLeft, NotPlugged, Plugged
from holetubs.figures import NOUGHT, is_fraction, is_whole_within, plus
from holetubs.hours import levels_by, stretches, went_by
from holetubs.tubs import AWAY, are_tubs, holes_of, is_hole_of, is_name_of, is_rain, tub_at, without_holes

MOST_HOURS = 1000


def at_first(tubs):
    """How a yard stands at first: no rain, all dry."""
    return (0, (0,) * len(tubs), (NOUGHT,) * len(tubs), (), {hole: NOUGHT for hole in holes_of(tubs)})


def with_rain(now, other):
    """How a yard stands with another rain."""
    hour, rain, levels, plugs, went = now
    return (hour, other, levels, plugs, went)


def with_plugs(now, holes):
    """How a yard stands with just these holes plugged."""
    hour, rain, levels, plugs, went = now
    return (hour, rain, levels, tuple(sorted(holes)), went)


def after_pouring(tubs, now, name, height):
    """How a yard stands when a tub's height is so much more."""
    hour, rain, levels, plugs, went = now
    at = tub_at(tubs, name)
    return (hour, rain, levels[:at] + (plus(levels[at], height),) + levels[at + 1:], plugs, went)


def after_hours(tubs, now, hours):
    """How a yard stands when so many hours went by."""
    hour, rain, levels, plugs, went = now
    unplugged = without_holes(tubs, plugs)
    told = stretches(unplugged, ((0, rain),), levels)
    end = (hours, 1)
    more = {hole: went_by(unplugged, told, end, hole) for hole in holes_of(unplugged)}
    grown = {hole: plus(went[hole], more.get(hole, NOUGHT)) for hole in went}
    return (hour + hours, rain, levels_by(unplugged, told, end), plugs, grown)


def ways_away(tubs):
    """All pairs (name, height) of the holes that lead away."""
    return [(name, height) for name, ground, holes in tubs for height, rate, into in holes if into == AWAY]


def refuse_no_hole(tubs, thing):
    if not is_hole_of(tubs, thing):
        raise NoHole("this is no pair (name, height) of a hole of the yard")


class Yard:
    """Tubs, and how they stand now and stood ahead of each deed."""

    def __init__(self, tubs):
        if not are_tubs(tubs):
            raise NoTubs("these are no tubs")
        self.busy = False
        self.tubs = tubs
        self.now = at_first(tubs)
        self.past = []

    def become(self, now):
        """The yard stands so from now on; how it stood can be taken back to."""
        self.busy = True
        self.past.append(self.now)
        self.now = now
        self.busy = False

    def set_rain(self, rain):
        """Another rain falls from now on."""
        if not is_rain(self.tubs, rain):
            raise NoRain("this is no rain for the tubs of the yard")
        self.become(with_rain(self.now, rain))

    def pour(self, name, height):
        """Water is poured into a tub: it stands so much higher."""
        if not is_name_of(self.tubs, name):
            raise NoName("no tub of the yard has this name")
        if not is_fraction(height):
            raise NoHeight("this is no fraction")
        self.become(after_pouring(self.tubs, self.now, name, height))

    def plug(self, hole):
        """Nothing goes through the hole from now on."""
        refuse_no_hole(self.tubs, hole)
        if hole in self.plugged():
            raise Plugged("the hole is plugged already")
        self.become(with_plugs(self.now, self.plugged() + (hole,)))

    def unplug(self, hole):
        """The plug is drawn."""
        refuse_no_hole(self.tubs, hole)
        if hole not in self.plugged():
            raise NotPlugged("the hole is not plugged")
        self.become(with_plugs(self.now, [other for other in self.plugged() if other != hole]))

    def go_on(self, hours):
        """Some hours go by."""
        if not is_whole_within(hours, 1, MOST_HOURS):
            raise NoHours("this is no whole number of hours from 1 to 1,000")
        self.become(after_hours(self.tubs, self.now, hours))

    def back(self):
        """What was done last is taken back."""
        if len(self.past) == 0:
            raise NothingLeft("nothing was done that is not taken back")
        self.busy = True
        self.now = self.past.pop()
        self.busy = False

    def hour(self):
        """How many hours went by."""
        hour, rain, levels, plugs, went = self.now
        return hour

    def heights(self):
        """How high each tub stands."""
        hour, rain, levels, plugs, went = self.now
        return levels

    def plugged(self):
        """The plugged holes, rising."""
        hour, rain, levels, plugs, went = self.now
        return plugs

    def through(self, hole):
        """What went through a hole in all."""
        refuse_no_hole(self.tubs, hole)
        hour, rain, levels, plugs, went = self.now
        return went[hole]

    def away(self):
        """What came away in all, through all holes that lead away."""
        much = NOUGHT
        for hole in ways_away(self.tubs):
            much = plus(much, self.through(hole))
        return much

    def __len__(self):
        return len([hole for hole in holes_of(self.tubs) if hole not in self.plugged()])

    def __eq__(self, other):
        return isinstance(other, Yard) and self.tubs == other.tubs and self.now == other.now
