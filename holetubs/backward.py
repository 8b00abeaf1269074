"""Asked backward: the least rain, the rates that fit, the fewest plugs."""

from holetubs.rests import RISES, comes, lets_in_the_end, rests
from holetubs.tubs import GREATEST_RATE, holes_of, place_of, tub_at, without_holes

GREATEST_LEAST_RAIN = 100000


def rain_with(tubs, rain, name, much):
    """The same rain, but so much of it into one tub."""
    at = tub_at(tubs, name)
    return rain[:at] + (much,) + rain[at + 1:]


def comes_up_to(tubs, rain, name, height):
    """Whether by every beginning the tub stands in the end at the height or above it, or rises."""
    rest = rests(tubs, rain)[tub_at(tubs, name)]
    return rest == RISES or rest[0] >= height


def least_rain(tubs, rain, name, other, height):
    """The least rain into a tub by which the other one comes up to a height, or None."""
    if not comes_up_to(tubs, rain_with(tubs, rain, name, GREATEST_LEAST_RAIN), other, height):
        return None
    least = 0
    enough = GREATEST_LEAST_RAIN
    # More rain never leaves a tub lower, so the rains that do are all those from one on.
    while least < enough:
        middle = (least + enough) // 2
        if comes_up_to(tubs, rain_with(tubs, rain, name, middle), other, height):
            enough = middle
        else:
            least = middle + 1
    return least


def with_rate(tubs, hole, rate):
    """The same tubs, but with this rate at one hole."""
    at, which = place_of(tubs, hole)
    name, ground, holes = tubs[at]
    height, old, into = holes[which]
    tub = (name, ground, holes[:which] + ((height, rate, into),) + holes[which + 1:])
    return tubs[:at] + (tub,) + tubs[at + 1:]


def rates_by(tubs, rain, hole, another, lets):
    """All rates of a hole by which another one, or it, lets so much an hour in the end."""
    return [rate for rate in range(1, GREATEST_RATE + 1)
            if lets_in_the_end(with_rate(tubs, hole, rate), rain, another) == lets]


def choices(things, many):
    """All ways to take so many of the things, in order; those with the first things go first."""
    if many == 0:
        return [()]
    told = []
    for at, thing in enumerate(things):
        told += [(thing,) + others for others in choices(things[at + 1:], many - 1)]
    return told


def fewest_plugs(tubs, rain, name, much):
    """The fewest holes to be plugged so that at least so much comes in the end into a tub, or None."""
    at = tub_at(tubs, name)
    holes = sorted(holes_of(tubs))
    for many in range(len(holes) + 1):
        for plugs in choices(holes, many):
            if comes(without_holes(tubs, plugs), rain)[at] >= much:
                return plugs
    return None
