"""Promise [3]: what holds over the whole program."""

import random
import unittest
from fractions import Fraction

from holetubs.backward import fewest_plugs, least_rain, rates_by
from holetubs.hours import heights, settled, through, turns
from holetubs.rests import comes, rests
from holetubs.tubs import are_tubs, is_beginning, is_weather
from holetubs.yards import Yard
from tests.helpers import (all_holes, any_beginning, any_rain, any_tubs, any_weather, as_fraction, as_pair,
                           many_rained, many_yards, telling_hours, times_higher, times_wider)


def rain_by(weather, at, hour):
    """How much rain fell into a tub by an hour."""
    ends = [start for start, rain in weather[1:]] + [hour]
    return sum([max(min(end, hour) - start, 0) * rain[at] for (start, rain), end in zip(weather, ends)])


def all_through(tubs, weather, beginning, hour):
    return {hole: as_fraction(through(tubs, weather, beginning, hour, hole)) for hole in all_holes(tubs)}


def times(pair, many):
    return as_pair(as_fraction(pair) * many)


class TestNothingIsLost(unittest.TestCase):
    def test_what_came_and_stood_stands_or_went(self):
        for tubs, weather, beginning in many_yards(150, 11):
            for hour in telling_hours(tubs, weather, beginning):
                levels = heights(tubs, weather, beginning, hour)
                went = all_through(tubs, weather, beginning, hour)
                for at, (name, ground, holes) in enumerate(tubs):
                    came = rain_by(weather, at, as_fraction(hour)) + sum(
                        [went[tub[0], hole[0]] for tub in tubs for hole in tub[2] if hole[2] == name])
                    stood = as_fraction(beginning[at]) * ground
                    stands = as_fraction(levels[at]) * ground
                    with self.subTest((tubs, weather, beginning, hour, name)):
                        self.assertEqual(came + stood, stands + sum(went[name, hole[0]] for hole in holes))


class TestMoreNeverLeavesLess(unittest.TestCase):
    def not_less(self, tubs, less, more):
        hours = telling_hours(tubs, *less) + telling_hours(tubs, *more)
        for hour in hours:
            with self.subTest((tubs, less, more, hour)):
                for low, high in zip(heights(tubs, *less, hour), heights(tubs, *more, hour)):
                    self.assertLessEqual(as_fraction(low), as_fraction(high))
                low, high = all_through(tubs, *less, hour), all_through(tubs, *more, hour)
                for hole in low:
                    self.assertLessEqual(low[hole], high[hole])

    def test_more_rain(self):
        chance = random.Random(12)
        for tubs, weather, beginning in many_yards(60, 13):
            more = tuple((hour, tuple(one + extra for one, extra in zip(rain, any_rain(chance, tubs, 4))))
                         for hour, rain in weather)
            self.not_less(tubs, (weather, beginning), (more, beginning))

    def test_rain_at_an_hour_when_none_was(self):
        chance = random.Random(14)
        for at in range(40):
            tubs = any_tubs(chance)
            beginning = any_beginning(chance, tubs)
            rain = any_rain(chance, tubs, 3)
            shower = tuple(one + 5 for one in rain)
            self.not_less(tubs, (((0, rain),), beginning), (((0, rain), (2, shower), (4, rain)), beginning))

    def test_higher_beginning(self):
        chance = random.Random(15)
        for tubs, weather, beginning in many_yards(60, 16):
            more = tuple(as_pair(as_fraction(one) + as_fraction(extra))
                         for one, extra in zip(beginning, any_beginning(chance, tubs, 2)))
            self.not_less(tubs, (weather, beginning), (weather, more))


class TestNothingTurnsBehind(unittest.TestCase):
    def test_all_goes_on_evenly_behind_the_told_hour(self):
        for tubs, weather, beginning in many_yards(150, 17):
            last = as_fraction(settled(tubs, weather, beginning))
            rows = [[as_fraction(part) for part in heights(tubs, weather, beginning, as_pair(last + span))]
                    for span in (Fraction(0), Fraction(1, 3), Fraction(1), Fraction(50), Fraction(10 ** 20))]
            with self.subTest((tubs, weather, beginning)):
                for first, third, one, fifty, far in zip(*rows):
                    self.assertEqual(third - first, (one - first) / 3)
                    self.assertEqual(fifty - first, (one - first) * 50)
                    self.assertEqual(far - first, (one - first) * 10 ** 20)
                told = turns(tubs, weather, beginning)
                self.assertEqual(last, max([as_fraction(hour) for hour, name in told], default=0))
                self.assertTrue(all([as_fraction(hour) > 0 for hour, name in told]))


class TestSoManyTimesAsGreat(unittest.TestCase):
    def test_grounds_rates_and_rain(self):
        for tubs, weather, beginning in many_yards(40, 18):
            for many in (2, 3, 4, 5):
                wider = times_wider(tubs, many)
                wetter = tuple((hour, tuple(one * many for one in rain)) for hour, rain in weather)
                self.assertTrue(are_tubs(wider) and is_weather(wider, wetter))
                with self.subTest((tubs, weather, beginning, many)):
                    self.assertEqual(turns(wider, wetter, beginning), turns(tubs, weather, beginning))
                    self.assertEqual(settled(wider, wetter, beginning), settled(tubs, weather, beginning))
                    for hour in telling_hours(tubs, weather, beginning):
                        self.assertEqual(heights(wider, wetter, beginning, hour),
                                         heights(tubs, weather, beginning, hour))
                        for hole in all_holes(tubs):
                            self.assertEqual(through(wider, wetter, beginning, hour, hole),
                                             times(through(tubs, weather, beginning, hour, hole), many))

    def test_heights_beginnings_and_hours(self):
        for tubs, weather, beginning in many_yards(40, 19):
            for many in (2, 3, 4, 5):
                higher = times_higher(tubs, many)
                later = tuple((hour * many, rain) for hour, rain in weather)
                fuller = tuple(times(one, many) for one in beginning)
                self.assertTrue(are_tubs(higher) and is_weather(higher, later) and is_beginning(higher, fuller))
                with self.subTest((tubs, weather, beginning, many)):
                    self.assertEqual(turns(higher, later, fuller),
                                     [(times(hour, many), name) for hour, name in turns(tubs, weather, beginning)])
                    self.assertEqual(settled(higher, later, fuller), times(settled(tubs, weather, beginning), many))
                    for hour in telling_hours(tubs, weather, beginning):
                        self.assertEqual(heights(higher, later, fuller, times(hour, many)),
                                         tuple(times(one, many) for one in heights(tubs, weather, beginning, hour)))
                        for name, height in all_holes(tubs):
                            self.assertEqual(
                                through(higher, later, fuller, times(hour, many), (name, height * many)),
                                times(through(tubs, weather, beginning, hour, (name, height)), many))


class TestSoManyTimesAsGreatInTheEnd(unittest.TestCase):
    """Rests, rains, rates and plugs of the same tubs, two to five times as great."""

    def each(self, seed, check):
        chance = random.Random(seed)
        for tubs, rain in many_rained(60, seed + 1):
            names = [tub[0] for tub in tubs]
            for many in (2, 3, 4, 5):
                name, other, number = chance.choice(names), chance.choice(names), chance.randint(0, 6)
                with self.subTest((tubs, rain, many, name, other, number)):
                    check(tubs, rain, many, name, other, number)

    def test_grounds_rates_and_rain(self):
        def check(tubs, rain, many, name, other, number):
            wider, wetter = times_wider(tubs, many), tuple(part * many for part in rain)
            self.assertTrue(are_tubs(wider))
            self.assertEqual(rests(wider, wetter), rests(tubs, rain))
            self.assertEqual(comes(wider, wetter), tuple(part * many for part in comes(tubs, rain)))
            self.assertEqual(fewest_plugs(wider, wetter, other, number * many), fewest_plugs(tubs, rain, other, number))
            least = least_rain(tubs, rain, name, other, number)
            # All but the first drop was not enough so many times as great, either; the next whole number is.
            grown = least if least in (None, 0) else (least - 1) * many + 1
            self.assertEqual(least_rain(wider, wetter, name, other, number), grown)
            for hole in all_holes(tubs):
                for another in all_holes(tubs):
                    rates = rates_by(wider, wetter, hole, another, number * many)
                    self.assertEqual([rate for rate in rates if rate % many == 0],
                                     [rate * many for rate in rates_by(tubs, rain, hole, another, number)
                                      if rate * many <= 100])
        self.each(24, check)

    def test_heights(self):
        def check(tubs, rain, many, name, other, number):
            higher = times_higher(tubs, many)
            self.assertTrue(are_tubs(higher))
            self.assertEqual(comes(higher, rain), comes(tubs, rain))
            self.assertEqual(rests(higher, rain), [
                tuple(part if part in ("rises", None) else part * many for part in row) for row in rests(tubs, rain)])
            self.assertEqual(least_rain(higher, rain, name, other, number * many),
                             least_rain(tubs, rain, name, other, number))
            plugs = fewest_plugs(tubs, rain, other, number)
            self.assertEqual(fewest_plugs(higher, rain, other, number),
                             None if plugs is None else tuple((tub, height * many) for tub, height in plugs))
            for tub, height in all_holes(tubs):
                for way, high in all_holes(tubs):
                    self.assertEqual(rates_by(higher, rain, (tub, height * many), (way, high * many), number),
                                     rates_by(tubs, rain, (tub, height), (way, high), number))
        self.each(26, check)

    def test_yards(self):
        def check(tubs, rain, many, name, other, number):
            yard = Yard(tubs)
            wider, higher = Yard(times_wider(tubs, many)), Yard(times_higher(tubs, many))
            for one in (yard, wider, higher):
                one.pour(name, (number * many, 1) if one is higher else (number, 1))
                one.set_rain(tuple(part * many for part in rain) if one is wider else rain)
                one.go_on((number + 1) * many if one is higher else number + 1)
            self.assertEqual(wider.heights(), yard.heights())
            self.assertEqual(higher.heights(), tuple(times(one, many) for one in yard.heights()))
            self.assertEqual(wider.away(), times(yard.away(), many))
            self.assertEqual(higher.away(), times(yard.away(), many))
        self.each(28, check)


class TestMoreRainInTheEnd(unittest.TestCase):
    def test_more_rain_never_leaves_less(self):
        chance = random.Random(30)
        for tubs, rain in many_rained(200, 31):
            more = tuple(one + extra for one, extra in zip(rain, any_rain(chance, tubs, 4)))
            with self.subTest((tubs, rain, more)):
                for one, other in zip(comes(tubs, rain), comes(tubs, more)):
                    self.assertLessEqual(one, other)
                far = 10 ** 9
                lows, highs = [[(far, far) if row == ("rises",) else (row[0], far if row[1] is None else row[1])
                                for row in rests(tubs, rained)] for rained in (rain, more)]
                for low, high in zip(lows, highs):
                    self.assertLessEqual(low[0], high[0])
                    self.assertLessEqual(low[1], high[1])


class TestAskedAgain(unittest.TestCase):
    def test_the_same_asked_again_in_another_order(self):
        yards = many_yards(60, 20)

        def asked(yard):
            return (turns(*yard), settled(*yard), heights(*yard, (5, 2)),
                    [through(*yard, (5, 2), hole) for hole in all_holes(yard[0])])

        first = [asked(yard) for yard in yards]
        again = [asked(yard) for yard in reversed(yards)]
        self.assertEqual(first, list(reversed(again)))

    def test_kinds_of_what_is_told(self):
        for yard in many_yards(60, 21):
            levels = heights(*yard, (5, 2))
            told = turns(*yard)
            fractions = list(levels) + [settled(*yard)] + [hour for hour, name in told]
            fractions += [through(*yard, (5, 2), hole) for hole in all_holes(yard[0])]
            with self.subTest(yard):
                self.assertIs(levels.__class__, tuple)
                self.assertIs(told.__class__, list)
                self.assertTrue(all([row.__class__ is tuple for row in told]))
                for part in fractions:
                    self.assertIs(is_beginning(yard[0][:1], (part,)), True)

    def test_yards_differ(self):
        # The others say little where the made-up yards have nothing that turns.
        chance = random.Random(22)
        told = [turns(tubs, any_weather(chance, tubs), beginning) for tubs, weather, beginning in many_yards(60, 23)]
        self.assertGreater(len([rows for rows in told if len(rows) > 2]), 20)


if __name__ == "__main__":
    unittest.main()
