"""What tubs, weather and a beginning are; the tubs and holes of tubs."""

from holetubs.figures import is_fraction, is_whole, is_whole_within

LETTERS = "abcdefghijklmnopqrstuvwxyz"
LONGEST_NAME = 8
AWAY = ""
HIGHEST_HOLE = 1000
GREATEST_RATE = 100
GREATEST_GROUND = 1000
MOST_HOLES = 3
MOST_TUBS = 3
MOST_ROWS = 4
LAST_HOUR = 1000
GREATEST_RAIN = 1000


def is_tuple_of(thing, least, most):
    """Whether it is a tuple of so many things."""
    return isinstance(thing, tuple) and least <= len(thing) <= most


def is_rising(numbers):
    return all([one < other for one, other in zip(numbers, numbers[1:])])


def is_name(thing):
    if not isinstance(thing, str) or not 1 <= len(thing) <= LONGEST_NAME:
        return False
    return all([letter in LETTERS for letter in thing])


def is_way(thing):
    """Whether a hole could lead there, in some tubs."""
    return is_name(thing) or (isinstance(thing, str) and thing == AWAY)


def is_hole(thing):
    if not is_tuple_of(thing, 3, 3):
        return False
    height, rate, into = thing
    return is_whole_within(height, 0, HIGHEST_HOLE) and is_whole_within(rate, 1, GREATEST_RATE) and is_way(into)


def are_holes(thing):
    if not is_tuple_of(thing, 0, MOST_HOLES) or not all([is_hole(part) for part in thing]):
        return False
    return is_rising([height for height, rate, into in thing])


def is_tub(thing):
    """Whether it is a tub by itself, wherever its holes lead."""
    if not is_tuple_of(thing, 3, 3):
        return False
    name, ground, holes = thing
    return is_name(name) and is_whole_within(ground, 1, GREATEST_GROUND) and are_holes(holes)


def names_of(tubs):
    return [name for name, ground, holes in tubs]


def fits_among(tub, ahead, behind):
    """Whether no tub ahead has its name, and its holes lead away or to those behind it."""
    name, ground, holes = tub
    return name not in ahead and all([into == AWAY or into in behind for height, rate, into in holes])


def are_tubs(thing):
    if not is_tuple_of(thing, 1, MOST_TUBS) or not all([is_tub(part) for part in thing]):
        return False
    names = names_of(thing)
    return all([fits_among(tub, names[:at], names[at + 1:]) for at, tub in enumerate(thing)])


def is_rain(tubs, thing):
    if not is_tuple_of(thing, len(tubs), len(tubs)):
        return False
    return all([is_whole_within(part, 0, GREATEST_RAIN) for part in thing])


def is_weather_row(tubs, thing):
    if not is_tuple_of(thing, 2, 2):
        return False
    hour, rain = thing
    return is_whole_within(hour, 0, LAST_HOUR) and is_rain(tubs, rain)


def is_weather(tubs, thing):
    if not is_tuple_of(thing, 1, MOST_ROWS) or not all([is_weather_row(tubs, part) for part in thing]):
        return False
    hours = [hour for hour, rain in thing]
    return hours[0] == 0 and is_rising(hours)


def is_beginning(tubs, thing):
    if not is_tuple_of(thing, len(tubs), len(tubs)):
        return False
    return all([is_fraction(part) for part in thing])


def holes_of(tubs):
    """All pairs (name, height) of the holes, in order."""
    return [(name, height) for name, ground, holes in tubs for height, rate, into in holes]


def is_name_of(tubs, thing):
    """Whether it is the name of one of the tubs."""
    return thing in names_of(tubs)


def is_hole_of(tubs, thing):
    """Whether it is a pair (name, height) of one of the holes."""
    if not is_tuple_of(thing, 2, 2):
        return False
    # True equals 1 to Python, so the kind of the height is looked at, too.
    return is_whole(thing[1]) and thing in holes_of(tubs)


def tub_at(tubs, name):
    """Which tub has the name, counted from nought."""
    return names_of(tubs).index(name)


def place_of(tubs, hole):
    """Which tub the hole is in, and which of that tub's holes it is, counted from nought."""
    name, height = hole
    at = tub_at(tubs, name)
    return at, [row[0] for row in tubs[at][2]].index(height)


def without_holes(tubs, plugs):
    """The same tubs as they are with these holes plugged."""
    return tuple([(name, ground, tuple([hole for hole in holes if (name, hole[0]) not in plugs]))
                  for name, ground, holes in tubs])
