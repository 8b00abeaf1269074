"""Hour by hour: heights, what went through holes, and turns.

The hours fall into stretches in which every tub rises or falls evenly. A
stretch is a tuple (start, levels, gains, lets): the hour at which it starts,
how high each tub stands then, how much water each tub gains an hour, and what
each hole of each tub lets an hour. The last one goes on for ever.
"""

from holetubs.figures import NOUGHT, less, lesser, minus, plus, times_by
from holetubs.flows import flows
from holetubs.tubs import place_of


def hole_lets(height, rate, level, left):
    """What a hole lets an hour, where the holes beneath it leave so much of what comes."""
    if less(level, (height, 1)):
        return 0
    if less((height, 1), level):
        return rate
    return min(max(left, 0), rate)


def holes_let(holes, level, comes):
    """What each hole of a tub lets an hour, from the lowest on."""
    lets = []
    left = comes
    for height, rate, into in holes:
        much = hole_lets(height, rate, level, left)
        lets.append(much)
        left -= much
    return lets


def rain_at(weather, hour):
    """The rain that falls from this hour on."""
    falling = weather[0][1]
    for start, rain in weather:
        if not less(hour, (start, 1)):
            falling = rain
    return falling


def stretch_from(tubs, weather, hour, levels):
    def letting(at, much):
        return holes_let(tubs[at][2], levels[at], much)
    comes, lets = flows(tubs, rain_at(weather, hour), letting)
    gains = [came - sum(own) for came, own in zip(comes, lets)]
    return (hour, levels, gains, lets)


def levels_at(tubs, stretch, hour):
    """How high the tubs stand at an hour of this stretch, or at its end."""
    start, levels, gains, lets = stretch
    span = minus(hour, start)
    grounds = [ground for name, ground, holes in tubs]
    return [plus(level, times_by(span, gain, ground)) for level, gain, ground in zip(levels, gains, grounds)]


def spans_to_holes(tub, level, gain):
    """After how many hours each hole that the water moves toward would be met."""
    if gain == 0:
        return []
    name, ground, holes = tub
    spans = [times_by(minus((height, 1), level), ground, gain) for height, rate, into in holes]
    # Nought or less is a hole at the water's height, or one that it moves away from.
    return [span for span in spans if less(NOUGHT, span)]


def end_of(tubs, weather, stretch):
    """The hour at which the rain changes or a tub comes to a hole; None where none does."""
    start, levels, gains, lets = stretch
    ahead = [(hour, 1) for hour, rain in weather if less(start, (hour, 1))]
    for tub, level, gain in zip(tubs, levels, gains):
        ahead += [plus(start, span) for span in spans_to_holes(tub, level, gain)]
    end = None
    for hour in ahead:
        end = hour if end is None else lesser(end, hour)
    return end


def stretches(tubs, weather, beginning):
    stretch = stretch_from(tubs, weather, NOUGHT, list(beginning))
    told = [stretch]
    end = end_of(tubs, weather, stretch)
    while end is not None:
        stretch = stretch_from(tubs, weather, end, levels_at(tubs, stretch, end))
        told.append(stretch)
        end = end_of(tubs, weather, stretch)
    return told


def levels_by(tubs, told, hour):
    """How high the tubs stand at an hour, by all the stretches."""
    begun = [stretch for stretch in told if not less(hour, stretch[0])]
    return tuple(levels_at(tubs, begun[-1], hour))


def went_by(tubs, told, hour, hole):
    """How much went through a hole from hour 0 to this hour, by all the stretches."""
    at, which = place_of(tubs, hole)
    begun = [stretch for stretch in told if less(stretch[0], hour)]
    ends = [stretch[0] for stretch in begun[1:]] + [hour]
    went = NOUGHT
    for (start, levels, gains, lets), end in zip(begun, ends):
        went = plus(went, times_by(minus(end, start), lets[at][which], 1))
    return went


def heights(tubs, weather, beginning, hour):
    """How high each tub stands at an hour."""
    return levels_by(tubs, stretches(tubs, weather, beginning), hour)


def through(tubs, weather, beginning, hour, hole):
    """How much went through a hole from hour 0 to this hour."""
    return went_by(tubs, stretches(tubs, weather, beginning), hour, hole)


def turns(tubs, weather, beginning):
    """All (hour, name) at which a tub begins to rise or fall otherwise than just ahead."""
    told = stretches(tubs, weather, beginning)
    turned = []
    for before, after in zip(told, told[1:]):
        for tub, old, new in zip(tubs, before[2], after[2]):
            if old != new:
                turned.append((after[0], tub[0]))
    return turned


def settled(tubs, weather, beginning):
    """The hour of the last turn, or nought."""
    turned = turns(tubs, weather, beginning)
    return turned[-1][0] if turned else NOUGHT
