"""In the end, under one rain for ever: what comes into each tub, and where it stands."""

from holetubs.flows import flows
from holetubs.tubs import place_of

RISES = ("rises",)
BOTTOM = 0


def shared_out(holes, much):
    """What each hole lets in the end of what comes: the lowest all it can, the next one of the rest."""
    lets = []
    left = much
    for height, rate, into in holes:
        lets.append(min(left, rate))
        left -= lets[-1]
    return lets


def flows_in_the_end(tubs, rain):
    """What comes into each tub an hour in the end, and what each of its holes lets."""
    def letting(at, much):
        return shared_out(tubs[at][2], much)
    return flows(tubs, rain, letting)


def lets_in_the_end(tubs, rain, hole):
    at, which = place_of(tubs, hole)
    came, lets = flows_in_the_end(tubs, rain)
    return lets[at][which]


def rest_of(holes, much):
    """Where a tub with these holes stands in the end, where so much comes."""
    least = BOTTOM
    left = much
    for height, rate, into in holes:
        if left == 0:
            return (least, height)
        if left < rate:
            return (height, height)
        left -= rate
        least = height
    return (least, None) if left == 0 else RISES


def comes(tubs, rain):
    """What comes into each tub an hour in the end."""
    return tuple(flows_in_the_end(tubs, rain)[0])


def rests(tubs, rain):
    """For each tub ("rises",), or the pair (least, greatest) between which it can stand in the end."""
    return [rest_of(holes, much) for (name, ground, holes), much in zip(tubs, comes(tubs, rain))]
