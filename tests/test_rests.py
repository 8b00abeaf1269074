"""Promise [7]: what comes into each tub in the end, and where it stands then."""

import inspect
import random
import unittest
from fractions import Fraction

from holetubs import rests as module
from holetubs.hours import heights, settled, through, turns
from holetubs.rests import comes, rests
from tests.helpers import Ended, all_holes, any_beginning, as_fraction, as_pair, many_rained

RISES = ("rises",)
THREE_HOLES = (("a", 7, ((2, 3, ""), (5, 4, ""), (9, 1, ""))),)


class TestInterface(unittest.TestCase):
    def test_names_and_arguments(self):
        for name in ("comes", "rests"):
            told = getattr(module, name)
            self.assertEqual(list(inspect.signature(told).parameters), ["tubs", "rain"])
            self.assertEqual(told.__module__, "holetubs.rests")

    def test_by_name(self):
        self.assertEqual(comes(rain=(4,), tubs=THREE_HOLES), (4,))
        self.assertEqual(rests(rain=(4,), tubs=THREE_HOLES), [(5, 5)])

    def test_kinds(self):
        for tubs, rain in many_rained(60, 41):
            with self.subTest((tubs, rain)):
                much, where = comes(tubs, rain), rests(tubs, rain)
                self.assertIs(much.__class__, tuple)
                self.assertIs(where.__class__, list)
                self.assertEqual((len(much), len(where)), (len(tubs), len(tubs)))
                self.assertTrue(all([part.__class__ is int for part in much]))
                for row in where:
                    self.assertIs(row.__class__, tuple)
                    if row != RISES:
                        self.assertIs(row[0].__class__, int)
                        self.assertTrue(row[1] is None or row[1].__class__ is int)


class Told(unittest.TestCase):
    def check(self, tubs, rain, much, where):
        with self.subTest((tubs, rain)):
            self.assertEqual(comes(tubs, rain), much)
            self.assertEqual(rests(tubs, rain), where)


class TestOneTub(Told):
    def test_no_hole(self):
        tubs = (("a", 7, ()),)
        self.check(tubs, (0,), (0,), [(0, None)])
        self.check(tubs, (1,), (1,), [RISES])
        self.check(tubs, (1000,), (1000,), [RISES])

    def test_one_hole(self):
        tubs = (("a", 7, ((6, 3, ""),)),)
        for rain, where in ((0, (0, 6)), (1, (6, 6)), (2, (6, 6)), (3, (6, None)), (4, RISES), (1000, RISES)):
            self.check(tubs, (rain,), (rain,), [where])

    def test_three_holes(self):
        for rain, where in ((0, (0, 2)), (1, (2, 2)), (2, (2, 2)), (3, (2, 5)), (4, (5, 5)), (6, (5, 5)),
                            (7, (5, 9)), (8, (9, None)), (9, RISES), (1000, RISES)):
            self.check(THREE_HOLES, (rain,), (rain,), [where])

    def test_hole_at_the_bottom(self):
        tubs = (("a", 1, ((0, 2, ""), (1, 2, ""))),)
        for rain, where in ((0, (0, 0)), (1, (0, 0)), (2, (0, 1)), (3, (1, 1)), (4, (1, None)), (5, RISES)):
            self.check(tubs, (rain,), (rain,), [where])
        self.check((("a", 1, ((0, 2, ""),)),), (2,), (2,), [(0, None)])

    def test_bounds(self):
        tubs = (("a", 1000, ((0, 100, ""), (999, 100, ""), (1000, 100, ""))),)
        for rain, where in ((99, (0, 0)), (100, (0, 999)), (101, (999, 999)), (200, (999, 1000)), (201, (1000, 1000)),
                            (299, (1000, 1000)), (300, (1000, None)), (301, RISES)):
            self.check(tubs, (rain,), (rain,), [where])


class TestSeveralTubs(Told):
    def test_chain_of_three(self):
        tubs = (("a", 2, ((3, 4, "b"),)), ("b", 4, ((1, 2, "c"), (6, 1, ""))), ("c", 8, ((5, 2, ""),)))
        self.check(tubs, (0, 0, 0), (0, 0, 0), [(0, 3), (0, 1), (0, 5)])
        self.check(tubs, (1, 0, 0), (1, 1, 1), [(3, 3), (1, 1), (5, 5)])
        self.check(tubs, (2, 0, 0), (2, 2, 2), [(3, 3), (1, 6), (5, None)])
        self.check(tubs, (3, 0, 0), (3, 3, 2), [(3, 3), (6, None), (5, None)])
        self.check(tubs, (4, 0, 0), (4, 4, 2), [(3, None), RISES, (5, None)])
        self.check(tubs, (9, 0, 1), (9, 4, 3), [RISES, RISES, RISES])
        self.check(tubs, (0, 1, 0), (0, 1, 1), [(0, 3), (1, 1), (5, 5)])
        self.check(tubs, (0, 0, 7), (0, 0, 7), [(0, 3), (0, 1), RISES])

    def test_several_holes_into_one_tub(self):
        tubs = (("a", 1, ((0, 1, "c"), (2, 3, "c"))), ("b", 1, ((1, 5, "c"),)), ("c", 2, ((4, 2, ""), (8, 9, ""))))
        self.check(tubs, (2, 1, 1), (2, 1, 4), [(2, 2), (1, 1), (8, 8)])
        self.check(tubs, (1, 1, 0), (1, 1, 2), [(0, 2), (1, 1), (4, 8)])
        self.check(tubs, (9, 9, 2), (9, 9, 11), [RISES, RISES, (8, None)])
        self.check(tubs, (9, 9, 3), (9, 9, 12), [RISES, RISES, RISES])

    def test_one_tub_into_two(self):
        tubs = (("z", 5, ((1, 2, "b"), (4, 3, "a"), (6, 1, ""))), ("b", 1, ((2, 1, "a"),)), ("a", 1, ((7, 4, ""),)))
        self.check(tubs, (2, 0, 0), (2, 2, 1), [(1, 4), RISES, (7, 7)])
        self.check(tubs, (4, 0, 0), (4, 2, 3), [(4, 4), RISES, (7, 7)])
        self.check(tubs, (6, 0, 0), (6, 2, 4), [(6, None), RISES, (7, None)])

    def test_grounds_are_nothing_to_it(self):
        for tubs, rain in many_rained(60, 42):
            other = tuple((name, 1001 - ground, holes) for name, ground, holes in tubs)
            with self.subTest((tubs, rain)):
                self.assertEqual(comes(other, rain), comes(tubs, rain))
                self.assertEqual(rests(other, rain), rests(tubs, rain))


class TestBesideHours(unittest.TestCase):
    """Long behind settled, from several beginnings."""

    def lets_told(self, tubs, rain):
        told = {}
        for (name, ground, holes), left in zip(tubs, comes(tubs, rain)):
            for height, rate, into in holes:
                told[name, height] = min(left, rate)
                left -= told[name, height]
        return told

    def ends_as_told(self, tubs, rain, beginning):
        weather = ((0, rain),)
        last = as_fraction(settled(tubs, weather, beginning))
        early, late = as_pair(last + Fraction(1, 3)), as_pair(last + Fraction(1, 3) + 10 ** 6)
        for low, high, where in zip(heights(tubs, weather, beginning, early), heights(tubs, weather, beginning, late),
                                    rests(tubs, rain)):
            if where == RISES:
                self.assertLess(as_fraction(low), as_fraction(high))
            else:
                self.assertEqual(low, high)
                self.assertLessEqual(where[0], as_fraction(low))
                self.assertTrue(where[1] is None or as_fraction(low) <= where[1])
        for hole, much in self.lets_told(tubs, rain).items():
            went = [as_fraction(through(tubs, weather, beginning, hour, hole)) for hour in (early, late)]
            self.assertEqual(went[1] - went[0], much * 10 ** 6)

    def test_from_several_beginnings(self):
        chance = random.Random(43)
        for tubs, rain in many_rained(250, 44):
            for beginning in (((0, 1),) * len(tubs), ((5000, 1),) * len(tubs), any_beginning(chance, tubs),
                              any_beginning(chance, tubs)):
                with self.subTest((tubs, rain, beginning)):
                    self.ends_as_told(tubs, rain, beginning)

    def test_great_numbers(self):
        for tubs, rain in many_rained(60, 45, ground=1000, height=1001, rate=100):
            rain = tuple(part * 40 for part in rain)
            for beginning in (((0, 1),) * len(tubs), ((5000, 1),) * len(tubs), ((777, 2),) * len(tubs)):
                with self.subTest((tubs, rain, beginning)):
                    self.ends_as_told(tubs, rain, beginning)

    def test_each_told_stretch_is_whole(self):
        """By some beginning each tub stands at the least, the greatest and between: where all begin at rest."""
        for tubs, rain in many_rained(250, 46):
            where = rests(tubs, rain)
            for share in (Fraction(0), Fraction(1, 3), Fraction(1)):
                ends = [(9, 9) if row == RISES else (row[0], row[0] + 9 if row[1] is None else row[1])
                        for row in where]
                beginning = tuple(as_pair(least + (greatest - least) * share) for least, greatest in ends)
                with self.subTest((tubs, rain, beginning)):
                    self.assertEqual(turns(tubs, ((0, rain),), beginning), [])
                    late = heights(tubs, ((0, rain),), beginning, (1000, 1))
                    for row, begun, stood in zip(where, beginning, late):
                        self.assertTrue(row == RISES or begun == stood)

    def test_from_dry_it_comes_to_the_least(self):
        for tubs, rain in many_rained(250, 47):
            ended = Ended(tubs, rain)
            with self.subTest((tubs, rain)):
                self.assertEqual(comes(tubs, rain), tuple(ended.comes(tub[0]) for tub in tubs))
                for tub, row in zip(tubs, rests(tubs, rain)):
                    hour, level, gain = ended.followed[tub[0]].path[-1]
                    self.assertEqual(gain > 0, row == RISES)
                    self.assertTrue(row == RISES or level == row[0])

    def test_made_up_tubs_differ(self):
        told = [row for tubs, rain in many_rained(250, 44) for row in rests(tubs, rain)]
        self.assertGreater(told.count(RISES), 50)
        self.assertGreater(len([row for row in told if row != RISES and row[0] == row[1]]), 50)
        self.assertGreater(len([row for row in told if row != RISES and row[1] is not None and row[0] < row[1]]), 50)
        self.assertGreater(len([row for row in told if row[1:] == (None,)]), 50)


class TestOwnLists(unittest.TestCase):
    def test_a_told_list_is_the_askers_own(self):
        for rain, where in ((0, (0, 2)), (3, (2, 5)), (8, (9, None)), (9, RISES)):
            told = rests(THREE_HOLES, (rain,))
            other = rests(THREE_HOLES, (rain,))
            told[0] = ("falls",)
            told.append(1)
            with self.subTest(rain):
                self.assertEqual(other, [where])
                self.assertEqual(rests(THREE_HOLES, (rain,)), [where])
                self.assertEqual(comes(THREE_HOLES, (rain,)), (rain,))

    def test_nothing_handed_in_is_changed(self):
        for tubs, rain in many_rained(40, 48):
            before = repr((tubs, rain))
            first = (comes(tubs, rain), rests(tubs, rain), all_holes(tubs))
            self.assertEqual((comes(tubs, rain), rests(tubs, rain), all_holes(tubs)), first)
            self.assertEqual(repr((tubs, rain)), before)


if __name__ == "__main__":
    unittest.main()
