"""Promises [9], [10] and [11]: the least rain, the rates that fit, the fewest plugs."""

import inspect
import itertools
import random
import unittest

from holetubs import backward as module
from holetubs.backward import fewest_plugs, least_rain, rates_by
from holetubs.rests import comes
from tests.helpers import Ended, all_holes, many_rained, plugged

CHAIN = (("a", 2, ((3, 4, "b"),)), ("b", 4, ((1, 2, "c"), (6, 1, ""))), ("c", 8, ((5, 2, ""),)))
FORK = (("z", 5, ((1, 2, ""), (4, 3, "b"), (6, 9, "a"))), ("b", 1, ((2, 1, "a"), (3, 5, ""))), ("a", 1, ()))


class TestInterface(unittest.TestCase):
    def test_names_and_arguments(self):
        for name, arguments in (("least_rain", ["tubs", "rain", "name", "other", "height"]),
                                ("rates_by", ["tubs", "rain", "hole", "another", "lets"]),
                                ("fewest_plugs", ["tubs", "rain", "name", "much"])):
            told = getattr(module, name)
            self.assertEqual(list(inspect.signature(told).parameters), arguments)
            self.assertEqual(told.__module__, "holetubs.backward")

    def test_by_name(self):
        self.assertEqual(least_rain(height=6, other="b", name="a", rain=(0, 0, 0), tubs=CHAIN), 3)
        self.assertEqual(rates_by(lets=1, another=("b", 1), hole=("a", 3), rain=(4, 0, 0), tubs=CHAIN), [1])
        self.assertEqual(fewest_plugs(much=2, name="a", rain=(2, 0, 0), tubs=FORK), (("z", 1), ("z", 4)))


class TestLeastRain(unittest.TestCase):
    def check(self, tubs, rain, name, other, rows):
        for height, least in rows:
            with self.subTest((tubs, rain, name, other, height)):
                self.assertEqual(least_rain(tubs, rain, name, other, height), least)

    def test_the_same_tub(self):
        tubs = (("a", 7, ((2, 3, ""), (5, 4, ""), (9, 1, ""))),)
        self.check(tubs, (0,), "a", "a", [(0, 0), (1, 1), (2, 1), (3, 4), (4, 4), (5, 4), (6, 8), (9, 8), (10, 9),
                                          (1000, 9)])

    def test_what_the_rain_has_there_is_nothing_to_it(self):
        tubs = (("a", 7, ((2, 3, ""),)),)
        for rain in (0, 1, 5, 1000):
            self.check(tubs, (rain,), "a", "a", [(0, 0), (1, 1), (2, 1), (3, 4)])

    def test_no_hole(self):
        self.check((("a", 7, ()),), (0,), "a", "a", [(0, 0), (1, 1), (1000, 1)])

    def test_hole_at_the_bottom(self):
        tubs = (("a", 7, ((0, 3, ""), (1, 2, ""))),)
        self.check(tubs, (0,), "a", "a", [(0, 0), (1, 4), (2, 6), (1000, 6)])

    def test_highest_hole(self):
        tubs = (("a", 7, ((999, 100, ""), (1000, 100, ""))),)
        self.check(tubs, (0,), "a", "a", [(998, 1), (999, 1), (1000, 101)])

    def test_into_another_tub(self):
        self.check(CHAIN, (0, 0, 0), "a", "b", [(0, 0), (1, 1), (2, 3), (6, 3), (7, 4), (1000, 4)])
        self.check(CHAIN, (0, 2, 0), "a", "b", [(0, 0), (1, 0), (2, 1), (6, 1), (7, 2), (1000, 2)])
        self.check(CHAIN, (0, 0, 0), "a", "c", [(0, 0), (5, 1), (6, None), (1000, None)])
        self.check(CHAIN, (0, 0, 1), "a", "c", [(0, 0), (5, 0), (6, 2), (1000, 2)])
        self.check(CHAIN, (7, 0, 0), "b", "c", [(0, 0), (5, 0), (6, None)])

    def test_no_way_from_the_one_to_the_other(self):
        self.check(CHAIN, (0, 0, 0), "b", "a", [(0, 0), (1, None), (3, None), (4, None), (1000, None)])
        self.check(CHAIN, (3, 0, 0), "c", "a", [(0, 0), (3, 0), (4, None)])
        self.check(CHAIN, (5, 0, 0), "c", "a", [(3, 0), (4, 0), (1000, 0)])
        self.check((("a", 1, ((1, 1, ""),)), ("b", 1, ())), (0, 0), "a", "b", [(0, 0), (1, None)])

    def test_no_rain_is_enough(self):
        tubs = (("a", 1, ((1, 5, "b"),)), ("b", 1, ((2, 5, ""), (4, 1, ""))))
        self.check(tubs, (0, 0), "a", "b", [(2, 1), (3, None), (4, None), (1000, None)])

    def test_least_rain_beyond_what_falls_in_weather(self):
        wide = tuple((name, 1, ((1, 100, ""), (2, 100, ""), (3, 100, way))) for name, way in (("a", "b"), ("b", "")))
        self.check(wide, (0, 0), "a", "b", [(1, 201), (2, None)])
        self.check(wide, (0, 100), "a", "b", [(1, 0), (2, 201), (3, None)])
        # Rates somewhat beyond their bound bring the greatest rains into reach.
        for rate, least in ((99999, 100000), (100000, None), (99998, 99999), (5000, 5001)):
            self.check((("a", 1, ((1, rate, ""),)),), (0,), "a", "a", [(1, 1), (2, least)])

    def test_told_rain_does_and_one_less_does_not(self):
        chance = random.Random(51)
        found = []
        for tubs, rain in many_rained(150, 52):
            names = [tub[0] for tub in tubs]
            for name, other in itertools.product(names, names):
                height = chance.choice((0, 1, 2, 3, 4, 5, 6, 1000))
                least = least_rain(tubs, rain, name, other, height)
                found.append(least)

                def does(much):
                    at = names.index(name)
                    return Ended(tubs, rain[:at] + (much,) + rain[at + 1:]).reaches(other, height)

                with self.subTest((tubs, rain, name, other, height)):
                    if least is None:
                        self.assertFalse(does(100000))
                    else:
                        self.assertIs(least.__class__, int)
                        self.assertTrue(does(least) and does(least + 1) and does(100000))
                        self.assertFalse(least > 0 and does(least - 1))
        self.assertGreater(found.count(None), 30)
        self.assertGreater(len([least for least in found if least is not None and least > 1]), 30)


class TestRatesBy(unittest.TestCase):
    def check(self, tubs, rain, hole, another, rows):
        for lets, rates in rows:
            with self.subTest((tubs, rain, hole, another, lets)):
                self.assertEqual(rates_by(tubs, rain, hole, another, lets), rates)

    def test_the_hole_itself(self):
        tubs = (("a", 1, ((1, 3, ""), (2, 9, ""))),)
        every = list(range(1, 101))
        self.check(tubs, (5,), ("a", 1), ("a", 1), [
            (0, []), (1, [1]), (4, [4]), (5, every[4:]), (6, []), (100, [])])
        self.check(tubs, (5,), ("a", 2), ("a", 2), [(0, []), (1, [1]), (2, every[1:]), (3, [])])
        self.check(tubs, (3,), ("a", 2), ("a", 2), [(0, every), (1, [])])
        self.check(tubs, (100,), ("a", 1), ("a", 1), [(99, [99]), (100, [100])])
        self.check(tubs, (1000,), ("a", 1), ("a", 1), [(1, [1]), (100, [100]), (0, [])])

    def test_one_above_and_one_beneath(self):
        tubs = (("a", 1, ((1, 3, ""), (2, 9, ""))),)
        every = list(range(1, 101))
        self.check(tubs, (12,), ("a", 1), ("a", 2), [
            (0, every[11:]), (1, [11]), (8, [4]), (9, [1, 2, 3]), (10, []), (12, [])])
        self.check(tubs, (12,), ("a", 2), ("a", 1), [(3, every), (2, []), (0, []), (12, [])])

    def test_one_behind_and_one_ahead(self):
        self.check(CHAIN, (4, 0, 0), ("a", 3), ("b", 1), [(0, []), (1, [1]), (2, list(range(2, 101))), (3, [])])
        self.check(CHAIN, (4, 0, 0), ("a", 3), ("b", 6), [(0, [1, 2]), (1, list(range(3, 101))), (2, [])])
        self.check(CHAIN, (4, 0, 0), ("b", 1), ("c", 5), [(0, []), (1, [1]), (2, list(range(2, 101))), (3, [])])
        self.check(CHAIN, (4, 0, 0), ("b", 1), ("a", 3), [(4, list(range(1, 101))), (3, []), (5, [])])
        self.check(CHAIN, (9, 0, 0), ("a", 3), ("c", 5), [(1, [1]), (2, list(range(2, 101)))])

    def test_one_beside(self):
        self.check(FORK, (7, 0, 0), ("z", 4), ("z", 6), [(0, list(range(5, 101))), (1, [4]), (2, [3]), (4, [1]),
                                                         (5, [])])
        tubs = (("a", 1, ((1, 3, "c"),)), ("b", 1, ((1, 3, "c"),)), ("c", 1, ((1, 50, ""),)))
        self.check(tubs, (9, 9, 0), ("a", 1), ("b", 1), [(3, list(range(1, 101))), (9, []), (0, [])])
        self.check(tubs, (9, 9, 0), ("a", 1), ("c", 1), [(3, []), (4, [1]), (11, [8]), (12, list(range(9, 101)))])

    def test_rates_with_others_between(self):
        tubs = (("a", 1, ((1, 1, "b"), (2, 4, ""), (3, 4, "c"))), ("b", 1, ((1, 3, ""), (2, 50, "c"))),
                ("c", 1, ((1, 100, ""),)))
        self.check(tubs, (10, 0, 0), ("a", 1), ("c", 1), [
            (2, []), (3, [3, 4, 5, 6]), (4, [1, 2, 7]), (5, [8]), (6, [9]), (7, list(range(10, 101))), (8, [])])

    def test_what_the_tubs_have_there_is_not_looked_at(self):
        for tubs, rain in many_rained(30, 53):
            for name, height in all_holes(tubs):
                other = tuple((tub, ground, tuple(
                    (high, 77 if (tub, high) == (name, height) else rate, into) for high, rate, into in holes))
                    for tub, ground, holes in tubs)
                for another in all_holes(tubs):
                    for lets in (0, 1, 3):
                        with self.subTest((tubs, rain, name, height, another, lets)):
                            self.assertEqual(rates_by(tubs, rain, (name, height), another, lets),
                                             rates_by(other, rain, (name, height), another, lets))

    def test_just_the_told_rates_fit(self):
        chance = random.Random(54)
        for tubs, rain in many_rained(40, 55):
            holes = all_holes(tubs)
            if not holes:
                continue
            name, height = chance.choice(holes)
            another = chance.choice(holes)
            lets_by = {}
            for rate in range(1, 101):
                other = tuple((tub, ground, tuple(
                    (high, rate if (tub, high) == (name, height) else old, into) for high, old, into in row))
                    for tub, ground, row in tubs)
                lets_by[rate] = Ended(other, rain).lets(another)
            for lets in range(0, 8):
                told = rates_by(tubs, rain, (name, height), another, lets)
                with self.subTest((tubs, rain, name, height, another, lets)):
                    self.assertIs(told.__class__, list)
                    self.assertEqual(told, [rate for rate in range(1, 101) if lets_by[rate] == lets])

    def test_list_is_the_askers_own(self):
        asked = (CHAIN, (4, 0, 0), ("a", 3), ("b", 1), 1)
        told = rates_by(*asked)
        told.append(7)
        told[0] = None
        self.assertEqual(rates_by(*asked), [1])


def leaky(chance):
    """Tubs, in no order of their names, most of whose holes lead away; and much rain."""
    names = chance.sample(("b", "a", "ab", "c"), 3)
    rows = []
    for at, name in enumerate(names[:2]):
        ways = ["", "", chance.choice(names[at + 1:])]
        chance.shuffle(ways)
        heights = sorted(chance.sample(range(12), 3))
        rows.append((name, 1, tuple((height, chance.randint(1, 6), into) for height, into in zip(heights, ways))))
    return tuple(rows) + ((names[2], 1, ((3, 2, ""),)),), (chance.randint(3, 12), chance.randint(0, 8), 1)


class TestFewestPlugs(unittest.TestCase):
    def check(self, tubs, rain, name, rows):
        for much, plugs in rows:
            with self.subTest((tubs, rain, name, much)):
                self.assertEqual(fewest_plugs(tubs, rain, name, much), plugs)

    def test_none_needed(self):
        self.check(CHAIN, (0, 0, 0), "a", [(0, ())])
        self.check(CHAIN, (3, 0, 0), "a", [(0, ()), (2, ()), (3, ())])
        self.check(CHAIN, (3, 0, 0), "b", [(3, ())])
        self.check(CHAIN, (3, 0, 0), "c", [(2, ())])

    def test_no_plugs_do(self):
        self.check(CHAIN, (3, 0, 0), "a", [(4, None), (10000, None)])
        self.check(CHAIN, (3, 0, 0), "b", [(4, None)])
        self.check(CHAIN, (3, 0, 0), "c", [(3, None)])
        self.check((("a", 1, ()),), (0,), "a", [(0, ()), (1, None)])

    def test_one_and_several(self):
        self.check(FORK, (10, 0, 0), "a", [(5, ()), (6, ()), (7, (("z", 1),)), (8, (("z", 1),)),
                                           (9, (("z", 1), ("z", 4))), (10, None)])
        self.check(FORK, (9, 0, 0), "a", [(5, ()), (6, (("z", 1),)), (7, (("z", 1),)), (8, (("z", 1), ("z", 4))),
                                          (9, (("z", 1), ("z", 4))), (10, None)])

    def test_all_holes(self):
        tubs = (("a", 1, ((1, 1, ""), (2, 1, ""), (3, 9, "c"))), ("b", 1, ((1, 1, ""), (2, 1, ""), (3, 9, "c"))),
                ("c", 1, ()))
        every = (("a", 1), ("a", 2), ("b", 1), ("b", 2))
        self.check(tubs, (4, 4, 0), "c", [(4, ()), (5, every[:1]), (6, every[:2]), (7, every[:3]), (8, every),
                                          (9, None)])

    def test_of_as_few_the_first(self):
        tubs = (("z", 1, ((10, 1, ""), (20, 9, "c"))), ("a", 1, ((2, 1, ""), (9, 9, "c"))), ("c", 1, ((0, 1, ""),)))
        self.check(tubs, (5, 5, 0), "c", [(8, ()), (9, (("a", 2),)), (10, (("a", 2), ("z", 10))), (11, None)])
        heights = (("a", 1, ((9, 1, ""), (10, 1, ""), (11, 9, "b"))), ("b", 1, ()))
        self.check(heights, (5, 0), "b", [(4, (("a", 9),)), (5, (("a", 9), ("a", 10)))])

    def test_a_plug_may_bring_less(self):
        tubs = (("a", 1, ((1, 5, "b"), (2, 5, ""))), ("b", 1, ()))
        self.check(tubs, (5, 0), "b", [(5, ()), (6, None)])
        self.check(tubs, (9, 0), "b", [(5, ()), (6, None), (9, None)])

    def test_no_fewer_plugs_do(self):
        found = []
        chance = random.Random(56)
        for tubs, rain in [leaky(chance) for at in range(120)]:
            name = tubs[-1][0]
            holes = sorted(all_holes(tubs))
            ways = [some for many in range(len(holes) + 1) for some in itertools.combinations(holes, many)]
            most = max([comes(plugged(tubs, some), rain)[-1] for some in ways])
            much = most + chance.choice((0, 0, 0, -1, 1))
            plugs = fewest_plugs(tubs, rain, name, much)
            found.append(plugs)
            with self.subTest((tubs, rain, name, much)):
                doing = [some for some in ways if plugs is None or len(some) <= len(plugs)
                         if Ended(plugged(tubs, some), rain).comes(name) >= much]
                self.assertEqual(plugs, doing[0] if doing else None)
                self.assertIs(plugs.__class__, tuple if doing else None.__class__)
        for many in (0, 1, 2, 3):
            self.assertGreater(len([plugs for plugs in found if plugs is not None and len(plugs) == many]), 3)
        self.assertGreater(found.count(None), 10)

    def test_every_tub(self):
        for tubs, rain in many_rained(40, 58):
            for at, tub in enumerate(tubs):
                much = comes(tubs, rain)[at]
                with self.subTest((tubs, rain, tub)):
                    self.assertEqual(fewest_plugs(tubs, rain, tub[0], much), ())


class TestNothingChanged(unittest.TestCase):
    def test_nothing_handed_in_is_changed_and_the_same_is_told_again(self):
        for tubs, rain in many_rained(20, 59):
            name = tubs[-1][0]

            def asked():
                told = [least_rain(tubs, rain, tubs[0][0], name, 3), fewest_plugs(tubs, rain, name, 3)]
                return told + [rates_by(tubs, rain, hole, hole, 2) for hole in all_holes(tubs)]

            before = repr((tubs, rain))
            self.assertEqual(asked(), asked())
            self.assertEqual(repr((tubs, rain)), before)


if __name__ == "__main__":
    unittest.main()
