"""Promises [5], [6] and [8]: heights, what went through holes, turns, and when all is settled."""

import inspect
import random
import unittest
from fractions import Fraction

from holetubs import hours as module
from holetubs.hours import heights, settled, through, turns
from tests.helpers import (FORTY, all_holes, any_weather, as_fraction, as_pair, follow, followed_turns, many_yards,
                           telling_hours)

DRY = ((0, 1),)
ONE_HOLE = (("a", 2, ((3, 4, ""),)),)
TWO_HOLES = (("a", 5, ((1, 2, ""), (3, 4, ""))),)
CHAIN = (("a", 2, ((3, 4, "b"),)), ("b", 4, ((1, 2, "c"),)), ("c", 8, ()))


def rain(*parts):
    return ((0, parts),)


class TestInterface(unittest.TestCase):
    def test_names_and_arguments(self):
        asked = ["tubs", "weather", "beginning"]
        for name, arguments in (("heights", asked + ["hour"]), ("through", asked + ["hour", "hole"]),
                                ("turns", asked), ("settled", asked)):
            told = getattr(module, name)
            self.assertEqual(list(inspect.signature(told).parameters), arguments)
            self.assertEqual(told.__module__, "holetubs.hours")

    def test_by_name(self):
        told = {"tubs": ONE_HOLE, "weather": rain(6), "beginning": DRY}
        self.assertEqual(heights(hour=(2, 1), **told), ((4, 1),))
        self.assertEqual(through(hole=("a", 3), hour=(2, 1), **told), (4, 1))
        self.assertEqual(turns(**told), [((1, 1), "a")])
        self.assertEqual(settled(**told), (1, 1))


class Told(unittest.TestCase):
    def check(self, tubs, weather, beginning, rows, turned):
        """rows: (hour, heights, what went through the holes in order)."""
        for hour, levels, went in rows:
            with self.subTest(hour=hour):
                self.assertEqual(heights(tubs, weather, beginning, hour), levels)
                got = [through(tubs, weather, beginning, hour, hole) for hole in all_holes(tubs)]
                self.assertEqual(got, went)
        self.assertEqual(turns(tubs, weather, beginning), turned)
        self.assertEqual(settled(tubs, weather, beginning), turned[-1][0] if turned else (0, 1))


class TestOneTub(Told):
    def test_no_hole(self):
        self.check((("a", 4, ()),), rain(6), ((1, 3),), [
            ((0, 1), ((1, 3),), []), ((1, 1), ((11, 6),), []), ((10 ** 6, 1), ((4500001, 3),), []),
        ], [])

    def test_dry_and_no_rain(self):
        self.check(TWO_HOLES, rain(0), DRY, [((0, 1), DRY, [(0, 1)] * 2), ((FORTY, 7), DRY, [(0, 1)] * 2)], [])

    def test_more_comes_than_the_hole_lets(self):
        self.check(ONE_HOLE, rain(6), DRY, [
            ((0, 1), ((0, 1),), [(0, 1)]),
            ((1, 2), ((3, 2),), [(0, 1)]),
            ((1, 1), ((3, 1),), [(0, 1)]),
            ((5, 3), ((11, 3),), [(8, 3)]),
            ((10 ** 30, 1), ((10 ** 30 + 2, 1),), [(4 * (10 ** 30 - 1), 1)]),
        ], [((1, 1), "a")])

    def test_just_as_much_comes_as_the_hole_lets(self):
        self.check(ONE_HOLE, rain(4), DRY, [
            ((3, 4), ((3, 2),), [(0, 1)]), ((3, 2), ((3, 1),), [(0, 1)]), ((5, 2), ((3, 1),), [(4, 1)]),
        ], [((3, 2), "a")])

    def test_less_comes_than_the_hole_lets(self):
        self.check(ONE_HOLE, rain(3), DRY, [
            ((1, 1), ((3, 2),), [(0, 1)]), ((2, 1), ((3, 1),), [(0, 1)]), ((3, 1), ((3, 1),), [(3, 1)]),
            ((100, 1), ((3, 1),), [(294, 1)]),
        ], [((2, 1), "a")])

    def test_falling_to_a_hole(self):
        self.check(ONE_HOLE, rain(0), ((5, 1),), [
            ((1, 2), ((4, 1),), [(2, 1)]), ((1, 1), ((3, 1),), [(4, 1)]), ((9, 1), ((3, 1),), [(4, 1)]),
        ], [((1, 1), "a")])

    def test_staying_above_a_hole(self):
        self.check(ONE_HOLE, rain(4), ((5, 1),), [((7, 2), ((5, 1),), [(14, 1)])], [])

    def test_just_at_a_hole_less_comes_than_those_beneath_let(self):
        self.check(TWO_HOLES, rain(1), ((3, 1),), [
            ((5, 1), ((2, 1),), [(10, 1), (0, 1)]), ((10, 1), ((1, 1),), [(20, 1), (0, 1)]),
            ((11, 1), ((1, 1),), [(21, 1), (0, 1)]),
        ], [((10, 1), "a")])

    def test_just_at_a_hole_and_staying(self):
        for comes, upper in ((2, 0), (3, 1), (5, 3), (6, 4)):
            with self.subTest(comes=comes):
                self.check(TWO_HOLES, rain(comes), ((3, 1),), [
                    ((0, 1), ((3, 1),), [(0, 1), (0, 1)]), ((1, 2), ((3, 1),), [(1, 1), as_pair(Fraction(upper, 2))]),
                    ((7, 1), ((3, 1),), [(14, 1), (7 * upper, 1)]),
                ], [])

    def test_just_at_a_hole_more_comes_than_all_let(self):
        self.check(TWO_HOLES, rain(7), ((3, 1),), [((5, 1), ((4, 1),), [(10, 1), (20, 1)])], [])

    def test_from_hole_to_hole(self):
        self.check(TWO_HOLES, ((0, (12,)), (2, (0,))), DRY, [
            ((5, 12), ((1, 1),), [(0, 1), (0, 1)]),
            ((17, 12), ((3, 1),), [(2, 1), (0, 1)]),
            ((2, 1), ((37, 10),), [(19, 6), (7, 3)]),
            ((31, 12), ((3, 1),), [(13, 3), (14, 3)]),
            ((91, 12), ((1, 1),), [(43, 3), (14, 3)]),
            ((23, 3), ((1, 1),), [(43, 3), (14, 3)]),
        ], [((5, 12), "a"), ((17, 12), "a"), ((2, 1), "a"), ((31, 12), "a"), ((91, 12), "a")])

    def test_hole_at_the_bottom(self):
        tubs = (("a", 3, ((0, 5, ""), (2, 1, ""))),)
        self.check(tubs, rain(4), DRY, [((3, 1), DRY, [(12, 1), (0, 1)])], [])
        self.check(tubs, rain(5), DRY, [((3, 1), DRY, [(15, 1), (0, 1)])], [])
        self.check(tubs, rain(8), DRY, [((1, 1), ((1, 1),), [(5, 1), (0, 1)]),
                                        ((3, 1), ((8, 3),), [(15, 1), (1, 1)])], [((2, 1), "a")])
        self.check(tubs, rain(2), ((1, 1),), [((1, 2), ((1, 2),), [(5, 2), (0, 1)]), ((1, 1), DRY, [(5, 1), (0, 1)]),
                                              ((2, 1), DRY, [(7, 1), (0, 1)])], [((1, 1), "a")])

    def test_bounds(self):
        tubs = (("a", 1000, ((1000, 100, ""),)),)
        self.check(tubs, ((0, (1000,)), (1000, (0,))), DRY, [
            ((1000, 1), ((1000, 1),), [(0, 1)]), ((2000, 1), ((1000, 1),), [(0, 1)])], [((1000, 1), "a")])
        self.check(tubs, rain(1), DRY, [((FORTY, 1), ((1000, 1),), [(FORTY - 1000000, 1)])], [((1000000, 1), "a")])

    def test_great_fractions(self):
        begun = (FORTY, FORTY - 1)
        fall = (10 * (Fraction(*begun) - 1)) / 2
        tubs = (("a", 10, ((1, 2, ""),)),)
        hour = Fraction(1, FORTY)
        level = Fraction(*begun) - hour / 5
        self.check(tubs, rain(0), (begun,), [
            (as_pair(hour), (as_pair(level),), [as_pair(hour * 2)]),
            (as_pair(fall), ((1, 1),), [as_pair(fall * 2)]),
            ((FORTY, 2), ((1, 1),), [as_pair(fall * 2)]),
        ], [(as_pair(fall), "a")])


class TestSeveralTubs(Told):
    def test_chain_of_three(self):
        self.check(CHAIN, rain(6, 0, 0), ((0, 1),) * 3, [
            ((1, 1), ((3, 1), (0, 1), (0, 1)), [(0, 1), (0, 1)]),
            ((3, 2), ((7, 2), (1, 2), (0, 1)), [(2, 1), (0, 1)]),
            ((2, 1), ((4, 1), (1, 1), (0, 1)), [(4, 1), (0, 1)]),
            ((6, 1), ((8, 1), (3, 1), (1, 1)), [(20, 1), (8, 1)]),
        ], [((1, 1), "a"), ((1, 1), "b"), ((2, 1), "b"), ((2, 1), "c")])

    def test_a_hole_just_at_the_water_hands_on_what_comes(self):
        self.check(CHAIN, rain(3, 0, 0), ((3, 1), (0, 1), (0, 1)), [
            ((4, 3), ((3, 1), (1, 1), (0, 1)), [(4, 1), (0, 1)]),
            ((7, 3), ((3, 1), (5, 4), (1, 4)), [(7, 1), (2, 1)]),
        ], [((4, 3), "b"), ((4, 3), "c")])

    def test_several_holes_into_one_tub(self):
        tubs = (("a", 1, ((0, 1, "c"), (2, 3, "c"))), ("b", 1, ((1, 5, "c"),)), ("c", 2, ((4, 2, ""),)))
        self.check(tubs, rain(2, 1, 1), ((0, 1), (1, 1), (0, 1)), [
            ((4, 3), ((4, 3), (1, 1), (2, 1)), [(4, 3), (0, 1), (4, 3), (0, 1)]),
            ((2, 1), ((2, 1), (1, 1), (3, 1)), [(2, 1), (0, 1), (2, 1), (0, 1)]),
            ((5, 2), ((2, 1), (1, 1), (4, 1)), [(5, 2), (1, 2), (5, 2), (0, 1)]),
            ((7, 2), ((2, 1), (1, 1), (5, 1)), [(7, 2), (3, 2), (7, 2), (2, 1)]),
        ], [((2, 1), "a"), ((2, 1), "c"), ((5, 2), "c")])

    def test_weather_changes(self):
        weather = ((0, (2, 0)), (3, (0, 5)), (4, (6, 0)))
        tubs = (("a", 1, ()), ("b", 2, ((1, 1, ""),)))
        self.check(tubs, weather, ((0, 1), (0, 1)), [
            ((3, 1), ((6, 1), (0, 1)), [(0, 1)]),
            ((17, 5), ((6, 1), (1, 1)), [(0, 1)]),
            ((4, 1), ((6, 1), (11, 5)), [(3, 5)]),
            ((5, 1), ((12, 1), (17, 10)), [(8, 5)]),
            ((32, 5), ((102, 5), (1, 1)), [(3, 1)]),
            ((9, 1), ((36, 1), (1, 1)), [(3, 1)]),
        ], [((3, 1), "a"), ((3, 1), "b"), ((17, 5), "b"), ((4, 1), "a"), ((4, 1), "b"), ((32, 5), "b")])


class TestTurns(Told):
    def test_at_one_hour_in_the_order_of_the_tubs(self):
        tubs = (("z", 1, ((2, 1, ""),)), ("m", 1, ((2, 1, ""),)), ("a", 1, ((2, 1, ""),)))
        self.assertEqual(turns(tubs, rain(1, 1, 1), ((0, 1),) * 3), [((2, 1), "z"), ((2, 1), "m"), ((2, 1), "a")])
        self.assertEqual(turns(tubs, rain(1, 2, 1), ((0, 1),) * 3), [((1, 1), "m"), ((2, 1), "z"), ((2, 1), "a")])

    def test_none_where_other_rain_changes_no_height(self):
        weather = ((0, (3,)), (2, (4,)), (5, (1,)), (7, (0,)))
        self.check(ONE_HOLE, weather, ((3, 1),), [
            ((2, 1), ((3, 1),), [(6, 1)]), ((5, 1), ((3, 1),), [(18, 1)]), ((8, 1), ((3, 1),), [(20, 1)])], [])

    def test_none_where_the_same_rain_goes_on(self):
        self.assertEqual(turns((("a", 1, ()),), ((0, (3,)), (2, (3,))), DRY), [])

    def test_none_where_rain_and_a_hole_make_up_for_one_another(self):
        tubs = (("a", 1, ((2, 3, ""),)),)
        self.check(tubs, ((0, (1,)), (2, (4,))), DRY, [((5, 2), ((5, 2),), [(3, 2)])], [])
        chain = (("a", 1, ((2, 3, "b"),)), ("b", 1, ()))
        self.check(chain, ((0, (1, 3)), (2, (1, 2))), ((0, 1), (0, 1)), [((3, 1), ((2, 1), (9, 1)), [(1, 1)])],
                   [((2, 1), "a")])

    def test_none_at_hour_nought(self):
        self.assertEqual(turns(ONE_HOLE, rain(6), ((3, 1),)), [])
        self.assertEqual(turns(TWO_HOLES, rain(2), ((1, 1),)), [])

    def test_rain_that_begins_later(self):
        self.check(ONE_HOLE, ((0, (0,)), (1000, (2,))), DRY, [
            ((1000, 1), DRY, [(0, 1)]), ((1001, 1), ((1, 1),), [(0, 1)])], [((1000, 1), "a"), ((1003, 1), "a")])

    def test_a_hole_met_just_when_the_rain_changes(self):
        self.check(ONE_HOLE, ((0, (6,)), (1, (4,))), DRY, [((2, 1), ((3, 1),), [(4, 1)])], [((1, 1), "a")])

    def test_settled_by_the_last_turn_of_any_tub(self):
        self.assertEqual(settled(CHAIN, rain(6, 0, 0), ((0, 1),) * 3), (2, 1))
        self.assertEqual(settled(CHAIN, rain(0, 0, 5), ((0, 1),) * 3), (0, 1))

    def test_list_is_the_askers_own(self):
        told = turns(CHAIN, rain(6, 0, 0), ((0, 1),) * 3)
        before = list(told)
        told.clear()
        again = turns(CHAIN, rain(6, 0, 0), ((0, 1),) * 3)
        self.assertEqual(again, before)
        told.append(((9, 1), "z"))
        again[0] = None
        self.assertEqual(turns(CHAIN, rain(6, 0, 0), ((0, 1),) * 3), before)
        self.assertEqual(settled(CHAIN, rain(6, 0, 0), ((0, 1),) * 3), (2, 1))


class TestBesideTheSecondWay(unittest.TestCase):
    def same(self, tubs, weather, beginning):
        before = repr((tubs, weather, beginning))
        followed = follow(tubs, weather, beginning)
        for hour in telling_hours(tubs, weather, beginning):
            at = as_fraction(hour)
            levels = tuple(as_pair(one.height(at)) for one in followed)
            self.assertEqual(heights(tubs, weather, beginning, hour), levels)
            for one in followed:
                for hole, rows in zip(one.holes, one.lets):
                    ends = [start for start, rate in rows[1:]] + [at]
                    went = sum([max(min(end, at) - start, 0) * rate for (start, rate), end in zip(rows, ends)])
                    self.assertEqual(through(tubs, weather, beginning, hour, (one.name, hole[0])), as_pair(went))
        turned = followed_turns(tubs, weather, beginning)
        self.assertEqual(turns(tubs, weather, beginning), turned)
        self.assertEqual(settled(tubs, weather, beginning), turned[-1][0] if turned else (0, 1))
        self.assertEqual(repr((tubs, weather, beginning)), before)

    def test_small_numbers(self):
        for yard in many_yards(1200, 1):
            with self.subTest(yard):
                self.same(*yard)

    def test_great_numbers(self):
        chance = random.Random(2)
        for at in range(15):
            tubs = tuple((name, chance.randint(1, 1000), tuple(
                (height, chance.randint(1, 100), chance.choice(ways))
                for height in sorted(chance.sample(range(1001), 3))))
                for name, ways in (("a", ("b", "c", "")), ("b", ("c", "c", "")), ("c", ("",))))
            weather = any_weather(chance, tubs, 1000, 1000)
            beginning = tuple(as_pair(Fraction(chance.randint(0, FORTY), chance.randint(10 ** 37, FORTY)))
                              for tub in tubs)
            with self.subTest((tubs, weather, beginning)):
                self.same(tubs, weather, beginning)

    def test_what_was_told_handed_in_again(self):
        for tubs, weather, beginning in many_yards(60, 3):
            rains = ((0, weather[-1][1]),)
            half = as_pair(Fraction(7, 3))
            between = heights(tubs, rains, beginning, half)
            late = heights(tubs, rains, beginning, (14, 3))
            with self.subTest((tubs, weather, beginning)):
                self.assertEqual(heights(tubs, rains, between, half), late)


if __name__ == "__main__":
    unittest.main()
