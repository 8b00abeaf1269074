"""Promise [12]: a yard; and that it tells what heights and through tell."""

import inspect
import random
import unittest
from fractions import Fraction

from holetubs import errors, yards
from holetubs.hours import heights, through
from holetubs.tubs import are_tubs, is_beginning
from holetubs.yards import Yard
from tests.helpers import (FORTY, all_holes, any_beginning, any_rain, any_thing, any_tubs, any_weather, as_fraction,
                           as_pair, changed, follow, nested, plugged)

NOUGHT = (0, 1)
ONE = (("a", 2, ((3, 4, ""),)),)
CHAIN = (("tub", 2, ((1, 2, "a"), (3, 4, ""))), ("b", 4, ((1, 2, "a"),)), ("a", 8, ((0, 1, ""), (10, 3, ""))))
# Each of them equals some right thing to Python, or looks much like one.
NEAR_HOLES = (("a", 0.0), ("a", False), ("b", True), ("b", 1.0), ["b", 1], ("b", 1, 2), ("b",), ("b", 2), ("c", 1),
              (1, "b"), ("b", "1"), ("b", (1,)), ("b", [1]), ("b", None), (("b",), 1), (["b"], 1), (None, 1), "b1",
              ("", 0), ("b", -1), ("B", 1), ("b ", 1), ("tub", 2), ("a", FORTY), (True, 1),
              (("b", 1),), ("b", "a"))
PLAIN = (0, 1, -1, 2, FORTY, -FORTY, 0.5, 1.0, "", "a", "b", "tub", "a b\n~", "x" * 1000, True, False, None, (), [],
         (0,), [0], (0, 0, 0, 0), [0, 0, 0], ("a", 0, 1), (("a", 0),), (None, None), [[]], ((),))


def anything(seed, *right):
    chance = random.Random(seed)
    things = list(PLAIN) + list(NEAR_HOLES)
    things += [nested(depth, kind, inmost) for depth in (1, 2, 19, 20) for kind in (list, tuple)
               for inmost in (0, "a", None, True, ("b", 1), (0, 1), 5)]
    things += [list(range(300)), tuple(range(300)), ("a",) * 300]
    things += [any_thing(chance, 3) for at in range(400)]
    return things + [changed(chance, chance.choice(right)) for at in range(600)]


def is_number(thing):
    return thing.__class__ is int


def told_by(yard):
    """All that a yard tells."""
    through_all = [(hole, yard.through(hole)) for hole in all_holes(yard.tubs)]
    return (yard.hour(), yard.heights(), yard.plugged(), through_all, yard.away(), len(yard), yard.busy)


def do(yard, deed):
    name, *parts = deed
    return getattr(yard, name)(*parts)


def made(tubs, *deeds):
    yard = Yard(tubs)
    for deed in deeds:
        do(yard, deed)
    return yard


class Replayed:
    """What a yard must tell after some deeds, by the second way of the helpers."""

    def __init__(self, tubs, deeds):
        self.tubs, self.now, self.plugs = tubs, 0, set()
        self.rain = (0,) * len(tubs)
        self.levels = {tub[0]: Fraction(0) for tub in tubs}
        self.went = {hole: Fraction(0) for hole in all_holes(tubs)}
        for name, *parts in deeds:
            getattr(self, name)(*parts)

    def set_rain(self, rain):
        self.rain = rain

    def pour(self, name, height):
        self.levels[name] += as_fraction(height)

    def plug(self, hole):
        self.plugs.add(hole)

    def unplug(self, hole):
        self.plugs.remove(hole)

    def go_on(self, hours):
        begun = tuple(as_pair(level) for level in self.levels.values())
        for one in follow(plugged(self.tubs, self.plugs), ((0, self.rain),), begun):
            self.levels[one.name] = one.height(Fraction(hours))
            for hole, rows in zip(one.holes, one.lets):
                ends = [start for start, rate in rows[1:]] + [hours]
                self.went[one.name, hole[0]] += sum(
                    [max(min(end, hours) - start, 0) * rate for (start, rate), end in zip(rows, ends)])
        self.now += hours

    def told(self):
        went = [(hole, as_pair(self.went[hole])) for hole in all_holes(self.tubs)]
        away = sum([self.went[name, hole[0]] for name, ground, holes in self.tubs for hole in holes if hole[2] == ""])
        return (self.now, tuple(as_pair(level) for level in self.levels.values()), tuple(sorted(self.plugs)), went,
                as_pair(away), len(self.went) - len(self.plugs), False)


def any_deed(chance, tubs, plugs):
    """A deed that is not refused where these are plugged."""
    holes = all_holes(tubs)
    names = ["go_on", "go_on", "set_rain", "pour"]
    names += ["plug"] * (len(plugs) < len(holes)) + ["unplug"] * (len(plugs) > 0)
    name = chance.choice(names)
    if name == "go_on":
        return (name, chance.choice((1, 1, 2, 3, 5, 1000)))
    if name == "set_rain":
        return (name, any_rain(chance, tubs))
    if name == "pour":
        return (name, chance.choice(tubs)[0], any_beginning(chance, tubs, 3)[0])
    return (name, chance.choice([hole for hole in holes if (hole in plugs) == (name == "unplug")]))


class TestInterface(unittest.TestCase):
    def test_names_and_arguments(self):
        self.assertEqual(Yard.__module__, "holetubs.yards")
        self.assertEqual(list(inspect.signature(Yard).parameters), ["tubs"])
        for name, arguments in (("set_rain", ["rain"]), ("pour", ["name", "height"]), ("plug", ["hole"]),
                                ("unplug", ["hole"]), ("go_on", ["hours"]), ("back", []), ("hour", []),
                                ("heights", []), ("plugged", []), ("through", ["hole"]), ("away", []),
                                ("__len__", []), ("__eq__", ["other"])):
            with self.subTest(name):
                self.assertIn(name, vars(Yard))
                self.assertEqual(list(inspect.signature(vars(Yard)[name]).parameters), ["self"] + arguments)

    def test_by_name(self):
        yard = Yard(tubs=ONE)
        yard.set_rain(rain=(6,))
        yard.pour(name="a", height=(1, 2))
        yard.plug(hole=("a", 3))
        yard.unplug(hole=("a", 3))
        yard.go_on(hours=1)
        self.assertEqual((yard.heights(), yard.through(hole=("a", 3))), (((19, 6),), (2, 3)))

    def test_deeds_tell_none(self):
        yard = Yard(ONE)
        for deed in (("set_rain", (6,)), ("pour", "a", (1, 2)), ("plug", ("a", 3)), ("unplug", ("a", 3)),
                     ("go_on", 1), ("back",)):
            with self.subTest(deed):
                self.assertIsNone(do(yard, deed))
                self.assertIs(yard.busy, False)

    def test_kinds(self):
        yard = made(CHAIN, ("set_rain", (7, 3, 1)), ("plug", ("b", 1)), ("go_on", 3))
        self.assertIs(yard.hour().__class__, int)
        self.assertIs(len(yard).__class__, int)
        for told in (yard.heights(), yard.plugged(), yard.plugged()[0], yard.away(), yard.through(("a", 0))):
            self.assertIs(told.__class__, tuple)
        self.assertIs(is_beginning(CHAIN, yard.heights()), True)
        self.assertIs(is_beginning(ONE, (yard.away(),)), True)


class TestAtFirst(unittest.TestCase):
    def test_all_dry_at_hour_nought(self):
        for tubs in (ONE, CHAIN, (("a", 1, ()),)):
            yard = Yard(tubs)
            with self.subTest(tubs):
                self.assertEqual(told_by(yard), (0, (NOUGHT,) * len(tubs), (), [(hole, NOUGHT) for hole in
                                                                                all_holes(tubs)], NOUGHT,
                                                 len(all_holes(tubs)), False))

    def test_no_rain(self):
        yard = made(CHAIN, ("go_on", 1000))
        self.assertEqual((yard.hour(), yard.heights(), yard.away()), (1000, (NOUGHT,) * 3, NOUGHT))

    def test_busy_is_its_own_field(self):
        self.assertEqual([vars(Yard(tubs))["busy"] for tubs in (ONE, CHAIN)], [False, False])


class TestRefusals(unittest.TestCase):
    def deeds(self):
        return (("set_rain", (7, 3, 1)), ("pour", "b", (5, 2)), ("plug", ("b", 1)), ("go_on", 2))

    def refused(self, yard, deed, error):
        """It is refused so, changes nothing, and is none of what is taken back."""
        before, parts = told_by(yard), repr(deed)
        with self.assertRaises(errors.TubError) as caught:
            do(yard, deed)
        self.assertIs(caught.exception.__class__, error)
        self.assertEqual(told_by(yard), before)
        self.assertEqual(repr(deed), parts)

    def each(self, seed, name, error, is_right, *right):
        yard = made(CHAIN, *self.deeds())
        wrong = [thing for thing in anything(seed, *right) if not is_right(thing)]
        self.assertGreater(len(wrong), 300)
        for thing in wrong:
            with self.subTest(repr(thing)[:200]):
                self.refused(yard, (name, thing), error)
        yard.back()
        self.assertTrue(yard == made(CHAIN, *self.deeds()[:-1]))
        for thing in right:
            do(yard, (name, thing))

    def test_no_tubs(self):
        right = (ONE, CHAIN)
        wrong = [thing for thing in anything(61, *right) if not are_tubs(thing)]
        self.assertGreater(len(wrong), 800)
        for thing in wrong:
            with self.subTest(repr(thing)[:200]):
                with self.assertRaises(errors.NoTubs):
                    Yard(thing)
        for thing in ((("a", 1, []),), [("a", 1, ())], (("a", True, ()),), (("a", 1, ((1, 1, "a"),)),),
                      (("a", 1, ()), ("a", 1, ())), (("a", 1, ()),) * 4, (("a", 0, ()),), (("A", 1, ()),),
                      (("a", 1, ((2, 1, ""), (1, 1, ""))),), (("a", 1, ((1, 101, ""),)),), list(CHAIN)):
            with self.subTest(repr(thing)):
                with self.assertRaises(errors.NoTubs):
                    Yard(thing)
        self.assertEqual([len(Yard(thing)) for thing in right], [1, 5])

    def test_no_rain(self):
        def is_rain(thing):
            return (thing.__class__ is tuple and len(thing) == 3
                    and all([is_number(part) and 0 <= part <= 1000 for part in thing]))
        self.each(62, "set_rain", errors.NoRain, is_rain, (0, 0, 0), (1000, 0, 7))
        yard = made(CHAIN, *self.deeds())
        for thing in ((1, 2), (1, 2, 3, 4), [1, 2, 3], (1, 2, True), (1, 2, 1001), (1, -1, 2), (1, 2, 3.0),
                      (1, 2, "3"), (1, 2, None), (1, 2, (3, 1)), ((0, (1, 2, 3)),), (False, 0, 0), 1, None):
            with self.subTest(thing):
                self.refused(yard, ("set_rain", thing), errors.NoRain)

    def test_no_name(self):
        def is_name(thing):
            return thing.__class__ is str and thing in ("tub", "a", "b")
        yard = made(CHAIN, *self.deeds())
        for thing in anything(63, "tub", "a"):
            for height in ((1, 2), NOUGHT, None, (2, 4), "a", 1):
                if not is_name(thing):
                    with self.subTest((repr(thing)[:200], height)):
                        self.refused(yard, ("pour", thing, height), errors.NoName)
        for thing in ("", "tu", "tubs", "A", "ab", "c", ("a",), ["a"], ("a", 0)):
            with self.subTest(thing):
                self.refused(yard, ("pour", thing, (1, 2)), errors.NoName)

    def test_no_height(self):
        right = (NOUGHT, (1, 1), (1, 2), (7, 3), (FORTY, 1), (1, FORTY), (FORTY, FORTY - 1))

        def is_fraction(thing):
            return (thing.__class__ is tuple and len(thing) == 2 and is_number(thing[0]) and is_number(thing[1])
                    and thing[0] >= 0 and thing[1] >= 1 and Fraction(*thing).denominator == thing[1])
        yard = made(CHAIN, *self.deeds())
        things = anything(64, *right) + [
            (0, 2), (2, 2), (2, 4), (6, 9), (1, 0), (0, 0), (-1, 1), (1, -1), (-1, -1), (True, 1), (1, True), [1, 2],
            (1,), (1, 2, 3), 1, 0, "1", (1.0, 2), (1, 2.0), ("1", 2), (None, 1), ((1, 2),), FORTY, (FORTY, 3)]
        for thing in things:
            if not is_fraction(thing):
                with self.subTest(repr(thing)[:200]):
                    self.refused(yard, ("pour", "a", thing), errors.NoHeight)
        for height in right:
            before = as_fraction(yard.heights()[2])
            yard.pour("a", height)
            self.assertEqual(yard.heights()[2], as_pair(before + as_fraction(height)))

    def is_hole(self, thing):
        return (thing.__class__ is tuple and len(thing) == 2 and thing[0].__class__ is str and is_number(thing[1])
                and thing in all_holes(CHAIN))

    def test_no_hole(self):
        yard = made(CHAIN, *self.deeds())
        things = [thing for thing in anything(65, ("b", 1), ("a", 10), ("tub", 3)) if not self.is_hole(thing)]
        self.assertEqual([thing for thing in NEAR_HOLES if self.is_hole(thing)], [])
        for thing in things:
            for name in ("plug", "unplug", "through"):
                with self.subTest((name, repr(thing)[:200])):
                    self.refused(yard, (name, thing), errors.NoHole)

    def test_plugged_and_not_plugged(self):
        yard = made(CHAIN, *self.deeds())
        self.refused(yard, ("plug", ("b", 1)), errors.Plugged)
        self.refused(yard, ("unplug", ("a", 0)), errors.NotPlugged)
        self.refused(yard, ("unplug", ("tub", 1)), errors.NotPlugged)
        yard.unplug(("b", 1))
        self.refused(yard, ("unplug", ("b", 1)), errors.NotPlugged)
        yard.plug(("b", 1))
        self.refused(yard, ("plug", ("b", 1)), errors.Plugged)
        for hole in all_holes(CHAIN):
            if hole != ("b", 1):
                yard.plug(hole)
            self.refused(yard, ("plug", hole), errors.Plugged)
        for thing in (("b", True), ("b", 1.0), ["b", 1], ("b", 2)):
            self.refused(yard, ("plug", thing), errors.NoHole)
            self.refused(yard, ("unplug", thing), errors.NoHole)

    def test_no_hours(self):
        self.each(66, "go_on", errors.NoHours, lambda thing: is_number(thing) and 1 <= thing <= 1000, 1, 2, 999, 1000)
        yard = made(CHAIN, *self.deeds())
        for thing in (0, -1, 1001, FORTY, True, False, None, "1", 1.0, (1, 1), (1,), [1], (), []):
            with self.subTest(thing):
                self.refused(yard, ("go_on", thing), errors.NoHours)

    def test_nothing_left(self):
        yard = Yard(CHAIN)
        self.refused(yard, ("back",), errors.NothingLeft)
        for deed in self.deeds():
            do(yard, deed)
            yard.back()
            self.refused(yard, ("back",), errors.NothingLeft)
            self.refused(yard, ("back",), errors.NothingLeft)
        self.refused(yard, ("go_on", 0), errors.NoHours)
        self.refused(yard, ("back",), errors.NothingLeft)

    def test_what_was_refused_is_not_taken_back(self):
        yard = made(ONE, ("set_rain", (6,)))
        for deed, error in ((("set_rain", None), errors.NoRain), (("pour", "b", NOUGHT), errors.NoName),
                            (("pour", "a", 1), errors.NoHeight), (("plug", ("a", 1)), errors.NoHole),
                            (("unplug", ("a", 3)), errors.NotPlugged), (("through", ("a", 1)), errors.NoHole),
                            (("go_on", 0), errors.NoHours)):
            self.refused(yard, deed, error)
        yard.back()
        self.assertTrue(yard == Yard(ONE))
        self.refused(yard, ("back",), errors.NothingLeft)


class TestRain(unittest.TestCase):
    def test_rains_one_after_the_other(self):
        weather = ((0, (6, 0, 0)), (2, (0, 5, 1)), (3, (9, 9, 9)), (7, (0, 0, 0)))
        yard = Yard(CHAIN)
        for hour in range(1, 30):
            rains = [rain for start, rain in weather if start == hour - 1]
            for rain in rains:
                yard.set_rain(rain)
            yard.go_on(1)
            with self.subTest(hour):
                self.assertEqual(yard.hour(), hour)
                self.assertEqual(yard.heights(), heights(CHAIN, weather, (NOUGHT,) * 3, (hour, 1)))
                for hole in all_holes(CHAIN):
                    self.assertEqual(yard.through(hole), through(CHAIN, weather, (NOUGHT,) * 3, (hour, 1), hole))

    def test_the_last_of_several_within_an_hour(self):
        yard = made(ONE, ("set_rain", (6,)), ("set_rain", (2,)), ("go_on", 2))
        self.assertEqual(yard.heights(), ((2, 1),))

    def test_the_same_rain_again_is_a_deed(self):
        yard = made(ONE, ("set_rain", (6,)), ("set_rain", (6,)))
        yard.back()
        self.assertTrue(yard == made(ONE, ("set_rain", (6,))))
        yard.back()
        self.assertTrue(yard == Yard(ONE))

    def test_made_up_weather_and_beginnings(self):
        chance = random.Random(67)
        for at in range(60):
            tubs = any_tubs(chance)
            weather, beginning = any_weather(chance, tubs), any_beginning(chance, tubs)
            yard = made(tubs, *[("pour", tub[0], level) for tub, level in zip(tubs, beginning)])
            ends = [hour for hour, rain in weather[1:]] + [weather[-1][0] + chance.randint(1, 1000)]
            for (start, rain), end in zip(weather, ends):
                yard.set_rain(rain)
                yard.go_on(end - start)
                with self.subTest((tubs, weather, beginning, end)):
                    self.assertEqual(yard.heights(), heights(tubs, weather, beginning, (end, 1)))
                    self.assertEqual([yard.through(hole) for hole in all_holes(tubs)],
                                     [through(tubs, weather, beginning, (end, 1), hole) for hole in all_holes(tubs)])


class TestPouring(unittest.TestCase):
    def test_so_much_more(self):
        yard = made(CHAIN, ("pour", "b", (1, 2)))
        self.assertEqual(yard.heights(), (NOUGHT, (1, 2), NOUGHT))
        yard.pour("b", (1, 3))
        yard.pour("a", (7, 1))
        self.assertEqual(yard.heights(), (NOUGHT, (5, 6), (7, 1)))
        yard.pour("tub", NOUGHT)
        self.assertEqual(yard.heights(), (NOUGHT, (5, 6), (7, 1)))
        self.assertEqual((yard.hour(), yard.away()), (0, NOUGHT))

    def test_it_drains(self):
        yard = made(ONE, ("pour", "a", (5, 1)), ("go_on", 3))
        self.assertEqual((yard.heights(), yard.through(("a", 3)), yard.away()), (((3, 1),), (4, 1), (4, 1)))

    def test_told_heights_poured_again(self):
        yard = made(CHAIN, ("set_rain", (7, 3, 1)), ("go_on", 7))
        other = made(CHAIN, *[("pour", tub[0], level) for tub, level in zip(CHAIN, yard.heights())])
        self.assertEqual(other.heights(), yard.heights())


class TestPlugs(unittest.TestCase):
    def test_water_beneath_at_and_above_the_hole(self):
        for poured, hours, after in (((1, 1), 1, (1, 1)), ((3, 1), 1, (3, 1)), ((5, 1), 1, (3, 1)),
                                     ((7, 1), 1, (5, 1))):
            yard = made(ONE, ("pour", "a", poured), ("plug", ("a", 3)), ("go_on", hours))
            with self.subTest(poured):
                self.assertEqual((yard.heights(), yard.through(("a", 3))), ((poured,), NOUGHT))
                yard.unplug(("a", 3))
                yard.go_on(hours)
                went = (as_fraction(poured) - as_fraction(after)) * 2
                self.assertEqual((yard.heights(), yard.through(("a", 3))), ((after,), as_pair(went)))

    def test_rain_on_a_plugged_tub(self):
        yard = made(ONE, ("set_rain", (2,)), ("go_on", 3), ("plug", ("a", 3)), ("go_on", 2))
        self.assertEqual((yard.heights(), yard.through(("a", 3))), (((5, 1),), NOUGHT))
        yard.unplug(("a", 3))
        yard.go_on(1)
        self.assertEqual((yard.heights(), yard.through(("a", 3))), (((4, 1),), (4, 1)))
        yard.go_on(2)
        self.assertEqual((yard.heights(), yard.through(("a", 3))), (((3, 1),), (10, 1)))

    def test_a_plug_at_the_water_sends_it_on(self):
        tubs = (("a", 1, ((0, 2, "b"), (3, 2, ""))), ("b", 1, ()))
        yard = made(tubs, ("set_rain", (2, 0)), ("go_on", 2))
        self.assertEqual((yard.heights(), yard.away()), (((0, 1), (4, 1)), NOUGHT))
        yard.plug(("a", 0))
        yard.go_on(3)
        self.assertEqual((yard.heights(), yard.away()), (((3, 1), (4, 1)), (3, 1)))

    def test_through_of_a_plugged_hole_stays(self):
        yard = made(ONE, ("pour", "a", (9, 1)), ("go_on", 1), ("plug", ("a", 3)), ("go_on", 5))
        self.assertEqual((yard.through(("a", 3)), yard.heights(), yard.away()), ((4, 1), ((7, 1),), (4, 1)))

    def test_told_rising(self):
        yard = Yard(CHAIN)
        order = [("tub", 3), ("a", 10), ("b", 1), ("tub", 1), ("a", 0)]
        for many, hole in enumerate(order):
            yard.plug(hole)
            self.assertEqual(yard.plugged(), tuple(sorted(order[:many + 1])))
            self.assertEqual(len(yard), 4 - many)
        for many, hole in enumerate(order):
            yard.unplug(hole)
            self.assertEqual(yard.plugged(), tuple(sorted(order[many + 1:])))
            self.assertEqual(len(yard), many + 1)

    def test_all_plugged_is_as_without_holes(self):
        plugs = [("plug", hole) for hole in all_holes(CHAIN)]
        yard = made(CHAIN, *plugs, ("set_rain", (4, 8, 16)), ("go_on", 5))
        self.assertEqual((yard.heights(), yard.away(), len(yard)), (((10, 1), (10, 1), (10, 1)), NOUGHT, 0))

    def test_as_heights_and_through_of_tubs_without_the_hole(self):
        chance = random.Random(68)
        for at in range(60):
            tubs = any_tubs(chance)
            holes = all_holes(tubs)
            plugs = chance.sample(holes, chance.randint(0, len(holes)))
            rain, beginning = any_rain(chance, tubs), any_beginning(chance, tubs)
            yard = made(tubs, *[("plug", hole) for hole in plugs], ("set_rain", rain),
                        *[("pour", tub[0], level) for tub, level in zip(tubs, beginning)], ("go_on", 3))
            asked = (plugged(tubs, plugs), ((0, rain),), beginning, (3, 1))
            with self.subTest((tubs, plugs, rain, beginning)):
                self.assertEqual(yard.heights(), heights(*asked))
                for hole in holes:
                    went = NOUGHT if hole in plugs else through(*asked, hole)
                    self.assertEqual(yard.through(hole), went)


class TestGoingOn(unittest.TestCase):
    def test_in_one_go_and_one_by_one(self):
        chance = random.Random(69)
        for at in range(40):
            tubs = any_tubs(chance)
            deeds = [("set_rain", any_rain(chance, tubs))]
            deeds += [("pour", tub[0], level) for tub, level in zip(tubs, any_beginning(chance, tubs))]
            holes = all_holes(tubs)
            deeds += [("plug", hole) for hole in holes[:1]]
            hours = chance.randint(2, 12)
            one_go = made(tubs, *deeds, ("go_on", hours))
            one_by_one = made(tubs, *deeds, *[("go_on", 1)] * hours)
            with self.subTest((tubs, deeds, hours)):
                self.assertEqual(told_by(one_go), told_by(one_by_one))
                self.assertTrue(one_go == one_by_one)

    def test_a_thousand_hours(self):
        one_go = made(CHAIN, ("set_rain", (5, 1, 0)), ("go_on", 1000), ("go_on", 1000))
        one_by_one = made(CHAIN, ("set_rain", (5, 1, 0)), *[("go_on", 1)] * 2000)
        self.assertEqual(one_go.hour(), 2000)
        self.assertTrue(one_go == one_by_one)

    def test_what_came_away(self):
        yard = made(CHAIN, ("set_rain", (9, 2, 1)), ("pour", "a", (20, 1)), ("go_on", 4))
        holes = (("tub", 3), ("a", 0), ("a", 10))
        went = sum([as_fraction(yard.through(hole)) for hole in holes])
        self.assertEqual(yard.away(), as_pair(went))
        self.assertTrue(all([yard.through(hole) != NOUGHT for hole in all_holes(CHAIN)]))
        inner = (("a", 1, ((0, 9, "b"),)), ("b", 1, ()))
        self.assertEqual(made(inner, ("set_rain", (3, 3)), ("go_on", 9)).away(), NOUGHT)

    def test_nothing_is_lost(self):
        yard = made(CHAIN, ("set_rain", (9, 2, 1)), ("pour", "a", (20, 1)), ("go_on", 4), ("plug", ("a", 0)),
                    ("go_on", 10), ("set_rain", (0, 0, 3)), ("unplug", ("a", 0)), ("go_on", 7))
        stands = sum([as_fraction(level) * tub[1] for level, tub in zip(yard.heights(), CHAIN)])
        self.assertEqual(stands + as_fraction(yard.away()), 12 * 14 + 20 * 8 + 3 * 7)


class TestBesideTheSecondWay(unittest.TestCase):
    def test_deeds_and_back_to_the_very_first(self):
        chance = random.Random(70)
        for at in range(60):
            tubs = any_tubs(chance)
            yard, deeds, plugs, told = Yard(tubs), [], set(), []
            for many in range(12):
                deed = any_deed(chance, tubs, plugs)
                told.append(told_by(yard))
                deeds.append(deed)
                do(yard, deed)
                plugs ^= {deed[1]} if deed[0] in ("plug", "unplug") else set()
                with self.subTest((tubs, deeds)):
                    self.assertEqual(told_by(yard), Replayed(tubs, deeds).told())
            for before in reversed(told):
                yard.back()
                with self.subTest((tubs, deeds, before)):
                    self.assertEqual(told_by(yard), before)
            self.assertTrue(yard == Yard(tubs))
            with self.assertRaises(errors.NothingLeft):
                yard.back()

    def test_back_and_on_again(self):
        chance = random.Random(71)
        for at in range(40):
            tubs = any_tubs(chance)
            yard, deeds = Yard(tubs), []
            for many in range(30):
                if deeds and chance.random() < 0.4:
                    yard.back()
                    deeds.pop()
                else:
                    deeds.append(any_deed(chance, tubs, yard.plugged()))
                    do(yard, deeds[-1])
            with self.subTest((tubs, deeds)):
                self.assertEqual(told_by(yard), Replayed(tubs, deeds).told())
                self.assertTrue(yard == made(tubs, *deeds))

    def test_the_rain_is_taken_back_too(self):
        yard = made(ONE, ("set_rain", (6,)), ("set_rain", (2,)))
        yard.back()
        yard.go_on(1)
        self.assertEqual(yard.heights(), ((3, 1),))


class TestEquality(unittest.TestCase):
    def same(self, one, other):
        self.assertIs(one == other, True)
        self.assertIs(other == one, True)
        self.assertIs(one != other, False)

    def unlike(self, one, other):
        self.assertIs(one == other, False)
        self.assertIs(other == one, False)
        self.assertIs(one != other, True)

    def test_the_same_deeds(self):
        deeds = (("set_rain", (7, 3, 1)), ("pour", "b", (5, 2)), ("plug", ("b", 1)), ("go_on", 2))
        for many in range(5):
            self.same(made(CHAIN, *deeds[:many]), made(CHAIN, *deeds[:many]))

    def test_what_was_done_on_the_way_is_nothing_to_it(self):
        self.same(made(CHAIN, ("plug", ("b", 1)), ("plug", ("a", 0))),
                  made(CHAIN, ("plug", ("a", 0)), ("plug", ("b", 1))))
        self.same(made(ONE, ("set_rain", (5,)), ("set_rain", (0,)), ("plug", ("a", 3)), ("unplug", ("a", 3))),
                  Yard(ONE))
        self.same(made(ONE, ("pour", "a", (1, 2)), ("pour", "a", (1, 2))), made(ONE, ("pour", "a", (1, 1))))
        self.same(made(ONE, ("pour", "a", (1, 2)), ("back",)), Yard(ONE))

    def test_one_part_differs(self):
        self.unlike(Yard(ONE), Yard((("a", 2, ((3, 5, ""),)),)))
        self.unlike(Yard(ONE), Yard((("b", 2, ((3, 4, ""),)),)))
        self.unlike(Yard(ONE), Yard((("a", 3, ((3, 4, ""),)),)))
        self.unlike(Yard((("a", 2, ((3, 4, "b"),)), ("b", 1, ()))), Yard((("a", 2, ((3, 4, ""),)), ("b", 1, ()))))
        self.unlike(Yard(ONE), made(ONE, ("go_on", 1)))
        self.unlike(Yard(ONE), made(ONE, ("set_rain", (1,))))
        self.unlike(Yard(ONE), made(ONE, ("pour", "a", (1, FORTY))))
        self.unlike(Yard(ONE), made(ONE, ("plug", ("a", 3))))
        drained = (("a", 1, ((0, 1, ""),)),)
        one, other = made(drained, ("pour", "a", (1, 1)), ("go_on", 1)), made(drained, ("go_on", 1))
        self.assertEqual((one.hour(), one.heights(), one.plugged()), (other.hour(), other.heights(), other.plugged()))
        self.unlike(one, other)
        self.unlike(made(CHAIN, ("plug", ("a", 0))), made(CHAIN, ("plug", ("a", 10))))

    def test_other_things(self):
        class Like:
            def __init__(self, yard):
                self.__dict__.update(vars(yard))

        yard = made(ONE, ("set_rain", (6,)), ("go_on", 2))
        for thing in list(PLAIN) + [ONE, yard.heights(), yard.plugged(), yard.hour(), len(yard), [yard], (yard,),
                                    vars(yard), Like(yard), Yard, tuple(vars(yard).values())]:
            self.unlike(yard, thing)
        self.same(yard, yard)

    def test_two_yards_are_two(self):
        one, other = Yard(CHAIN), Yard(CHAIN)
        before = told_by(other)
        for deed in (("set_rain", (7, 3, 1)), ("pour", "b", (5, 2)), ("plug", ("b", 1)), ("go_on", 2)):
            do(one, deed)
            self.assertEqual(told_by(other), before)
        with self.assertRaises(errors.NothingLeft):
            other.back()


class TestAskingChangesNothing(unittest.TestCase):
    def test_the_same_asked_again(self):
        yard = made(CHAIN, ("set_rain", (7, 3, 1)), ("go_on", 2), ("plug", ("b", 1)))
        twin = made(CHAIN, ("set_rain", (7, 3, 1)), ("go_on", 2), ("plug", ("b", 1)))
        first = told_by(yard)
        for at in range(3):
            self.assertEqual(told_by(yard), first)
            self.assertTrue(yard == twin)
        told = (yard.heights(), yard.plugged())
        yard.go_on(5)
        yard.unplug(("b", 1))
        self.assertEqual(told, (first[1], first[2]))
        yard.back()
        yard.back()
        self.assertEqual(told_by(yard), first)

    def test_busy_after_everything(self):
        yard = made(ONE, ("set_rain", (6,)), ("go_on", 2), ("plug", ("a", 3)))
        for deed in (("hour",), ("heights",), ("plugged",), ("through", ("a", 3)), ("away",), ("plug", ("a", 3)),
                     ("plug", None), ("unplug", ("a", 3)), ("unplug", ("a", 3)), ("go_on", 0), ("go_on", 5),
                     ("pour", "a", (1, 2)), ("pour", "b", 0), ("pour", "a", 0), ("set_rain", 0), ("set_rain", (1,)),
                     ("through", 0)) + (("back",),) * 12:
            try:
                do(yard, deed)
            except errors.TubError:
                pass
            with self.subTest(deed):
                self.assertIs(yard.busy, False)

    def test_module_has_the_class(self):
        self.assertIs(yards.Yard, Yard)


if __name__ == "__main__":
    unittest.main()
