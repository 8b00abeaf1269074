"""Promises [2] and [4]: what tubs, weather and a beginning are."""

import copy
import inspect
import random
import unittest

from holetubs import tubs as module
from holetubs.tubs import are_tubs, is_beginning, is_weather
from tests.helpers import FORTY, any_thing, changed, nested

ONE = (("a", 1, ()),)
THREE = (("a", 3, ((0, 2, "b"), (5, 1, ""), (9, 4, "c"))), ("b", 2, ((4, 1, "c"),)), ("c", 1, ()))


def one_tub(name="a", ground=5, holes=()):
    return ((name, ground, holes),)


def one_hole(height=3, rate=2, into=""):
    return one_tub(holes=((height, rate, into),))


class TestInterface(unittest.TestCase):
    def test_names_and_arguments(self):
        for name, arguments in (("are_tubs", ["thing"]), ("is_weather", ["tubs", "thing"]),
                                ("is_beginning", ["tubs", "thing"])):
            told = getattr(module, name)
            self.assertEqual(list(inspect.signature(told).parameters), arguments)
            self.assertEqual(told.__module__, "holetubs.tubs")

    def test_by_name(self):
        self.assertIs(are_tubs(thing=ONE), True)
        self.assertIs(is_weather(thing=((0, (1,)),), tubs=ONE), True)
        self.assertIs(is_beginning(thing=((0, 1),), tubs=ONE), True)


class Answers(unittest.TestCase):
    def all_true(self, answers):
        for thing, answer in answers:
            with self.subTest(repr(thing)[:200]):
                self.assertIs(answer, True)

    def all_false(self, answers):
        for thing, answer in answers:
            with self.subTest(repr(thing)[:200]):
                self.assertIs(answer, False)


class TestAnything(Answers):
    def test_true_or_false_and_nothing_else(self):
        chance = random.Random(4)
        things = [any_thing(chance, 4) for at in range(2000)]
        things += [nested(depth, kind, inmost) for depth in (1, 2, 3, 19, 20) for kind in (list, tuple)
                   for inmost in (0, "a", None, True, (), ("a", 1, ()), (0, (1,)), (0, 1))]
        right = (THREE, ((0, (1, 2, 3)), (4, (0, 0, 1000))), ((0, 1), (3, 2), (FORTY, 2)))
        things += [changed(chance, chance.choice(right)) for at in range(4000)]
        for thing in things:
            before = copy.deepcopy(thing)
            answers = (are_tubs(thing), is_weather(ONE, thing), is_weather(THREE, thing),
                       is_beginning(ONE, thing), is_beginning(THREE, thing))
            with self.subTest(repr(thing)[:200]):
                for answer in answers:
                    self.assertIn(repr(answer), ("True", "False"))
                self.assertEqual(repr(thing), repr(before))

    def test_plain_wrong_things(self):
        wrong = (0, 1, -1, FORTY, 2.5, "", "a", "a" * 1000, True, False, None, (), [], (None,), [[]], ((),))
        self.all_false([(thing, are_tubs(thing)) for thing in wrong])
        self.all_false([(thing, is_weather(ONE, thing)) for thing in wrong])
        self.all_false([(thing, is_beginning(ONE, thing)) for thing in wrong])

    def test_many_things(self):
        self.all_false([(many, are_tubs((("a", 1, ()),) * many)) for many in (4, 300)])
        self.all_false([(many, are_tubs((("a", 1, ((1, 1, ""),) * many),))) for many in (4, 300)])
        self.all_false([(many, is_weather(ONE, ((0, (1,)),) * many)) for many in (2, 300)])
        self.all_false([(many, is_beginning(ONE, ((0, 1),) * many)) for many in (2, 300)])


class TestAreTubs(Answers):
    def right(self, *things):
        self.all_true([(thing, are_tubs(thing)) for thing in things])

    def wrong(self, *things):
        self.all_false([(thing, are_tubs(thing)) for thing in things])

    def test_names(self):
        self.right(*[one_tub(name=name) for name in ("a", "z", "abcdefgh", "zzzzzzzz")])
        self.wrong(*[one_tub(name=name) for name in (
            "", "abcdefghi", "A", "aB", "a b", " ", "a1", "`", "{", "~", "a\n", "\u00e9", "\u00df", "\u0430", 1, True,
            None, ("a",), ["a"])])

    def test_names_unlike(self):
        self.right((("a", 1, ()), ("b", 1, ())), (("a", 1, ()), ("aa", 1, ()), ("aaa", 1, ())))
        self.wrong((("a", 1, ()), ("a", 1, ())), (("a", 1, ()), ("b", 1, ()), ("a", 2, ())),
                   (("b", 1, ()), ("a", 1, ()), ("a", 2, ())), (("a", 1, ((1, 1, "a"),)), ("a", 1, ())))

    def test_grounds(self):
        self.right(*[one_tub(ground=ground) for ground in (1, 2, 999, 1000)])
        self.wrong(*[one_tub(ground=ground) for ground in (
            0, -1, 1001, FORTY, True, False, None, "1", 1.0, (1,), [1], (1, 1))])

    def test_hole_heights(self):
        self.right(*[one_hole(height=height) for height in (0, 1, 999, 1000)])
        self.wrong(*[one_hole(height=height) for height in (
            -1, 1001, FORTY, True, False, None, "0", 0.0, (0,), [0], (0, 1))])

    def test_rates(self):
        self.right(*[one_hole(rate=rate) for rate in (1, 2, 99, 100)])
        self.wrong(*[one_hole(rate=rate) for rate in (
            0, -1, 101, FORTY, True, False, None, "1", 1.0, (1,), [1], (1, 1))])

    def test_how_many_holes(self):
        three = ((1, 1, ""), (2, 1, ""), (3, 1, ""))
        self.right(*[one_tub(holes=three[:many]) for many in (0, 1, 2, 3)])
        self.wrong(one_tub(holes=three + ((4, 1, ""),)))

    def test_heights_rising(self):
        self.right(one_tub(holes=((0, 9, ""), (1, 1, ""), (1000, 5, ""))))
        self.wrong(one_tub(holes=((1, 1, ""), (1, 2, ""))), one_tub(holes=((2, 1, ""), (1, 2, ""))),
                   one_tub(holes=((0, 1, ""), (2, 2, ""), (2, 3, ""))),
                   one_tub(holes=((0, 1, ""), (2, 2, ""), (1, 3, ""))))

    def test_where_holes_lead(self):
        def row(first="", second="", third=""):
            return (("a", 1, ((1, 1, first),)), ("b", 1, ((1, 1, second),)), ("c", 1, ((1, 1, third),)))
        self.right(row(), row("b"), row("c"), row("b", "c"), row("c", "c"), THREE)
        self.wrong(row("a"), row("", "a"), row("", "b"), row("", "", "a"), row("", "", "b"), row("", "", "c"))
        self.wrong(*[row(into) for into in (
            "d", "bb", "B", " ", "b ", "bc", None, True, False, 0, 1, ("b",), ["b"], (), [])])
        self.wrong(*[one_hole(into=into) for into in ("a", "b", None, 0, False, (), [])])

    def test_how_many_tubs(self):
        row = tuple((name, 1, ()) for name in ("a", "b", "c", "d"))
        self.right(row[:1], row[:2], row[:3])
        self.wrong((), row)

    def test_lengths_of_parts(self):
        self.wrong(("a", 1, ()), (("a", 1),), (("a", 1, (), ()),), ((),), (("a", 1, (1, 2, "")),),
                   one_tub(holes=((1, 2),)), one_tub(holes=((1, 2, "", ""),)), one_tub(holes=((),)),
                   one_tub(holes=""), one_tub(holes=None), one_tub(holes=0))

    def test_lists_in_the_place_of_tuples(self):
        self.wrong([("a", 1, ())], (["a", 1, ()],), (("a", 1, []),), (("a", 1, [(1, 2, "")]),),
                   (("a", 1, ([1, 2, ""],)),))


class TestIsWeather(Answers):
    def right(self, tubs, *things):
        self.all_true([(thing, is_weather(tubs, thing)) for thing in things])

    def wrong(self, tubs, *things):
        self.all_false([(thing, is_weather(tubs, thing)) for thing in things])

    def test_how_many_rows(self):
        rows = tuple((hour, (3,)) for hour in (0, 1, 2, 3, 4))
        self.right(ONE, *[rows[:many] for many in (1, 2, 3, 4)])
        self.wrong(ONE, (), rows)

    def test_hours(self):
        self.right(ONE, *[((0, (3,)), (hour, (4,))) for hour in (1, 2, 999, 1000)])
        self.wrong(ONE, *[((0, (3,)), (hour, (4,))) for hour in (
            -1, 0, 1001, FORTY, True, False, None, "1", 1.0, (1, 1), [1])])

    def test_first_hour(self):
        self.wrong(ONE, *[((hour, (3,)),) for hour in (1, -1, 1000, False, None, "0", 0.0, (0, 1))])

    def test_hours_rising(self):
        self.right(ONE, ((0, (3,)), (5, (3,)), (6, (3,)), (1000, (3,))))
        self.wrong(ONE, ((0, (3,)), (5, (4,)), (5, (4,))), ((0, (3,)), (5, (4,)), (4, (4,))),
                   ((0, (3,)), (0, (3,))), ((0, (3,)), (1, (3,)), (7, (3,)), (7, (3,))))

    def test_rain(self):
        self.right(ONE, *[((0, (rain,)),) for rain in (0, 1, 999, 1000)])
        self.wrong(ONE, *[((0, (rain,)),) for rain in (
            -1, 1001, FORTY, True, False, None, "0", 0.0, (0,), [0], (0, 1))])
        self.wrong(ONE, ((0, (1,)), (1, (1001,))), ((0, (1,)), (1, (True,))))

    def test_rain_for_each_tub(self):
        self.right(THREE, ((0, (1, 0, 1000)),), ((0, (1, 0, 1000)), (9, (0, 0, 0))))
        self.wrong(THREE, ((0, ()),), ((0, (1,)),), ((0, (1, 2)),), ((0, (1, 2, 3, 4)),), ((0, (1, 2, 1001)),),
                   ((0, (1, 2, 3)), (1, (1, 2))), ((0, (1, 2, 3)), (1, (1, 2, 3, 4))))
        self.wrong(ONE, ((0, ()),), ((0, (1, 2)),))

    def test_kinds_of_parts(self):
        self.wrong(ONE, [(0, (3,))], ([0, (3,)],), ((0, [3]),), ((0, 3),), ((0, "3"),), ((0, None),), (0, (3,)),
                   ((0,),), ((0, (3,), 1),), ((),), ((0, (3,)), ()))


class TestIsBeginning(Answers):
    def right(self, tubs, *things):
        self.all_true([(thing, is_beginning(tubs, thing)) for thing in things])

    def wrong(self, tubs, *things):
        self.all_false([(thing, is_beginning(tubs, thing)) for thing in things])

    def test_fractions(self):
        self.right(ONE, *[(part,) for part in (
            (0, 1), (1, 1), (1, 2), (2, 1), (3, 2), (1001, 1), (35, 36), (FORTY, 1), (1, FORTY), (FORTY, FORTY - 1),
            (FORTY - 1, FORTY))])

    def test_what_was_told_may_be_longer(self):
        self.right(ONE, ((10 ** 90 + 1, 10 ** 90),), ((1, 10 ** 40),), ((10 ** 40, 1),))

    def test_common_divisors(self):
        self.wrong(ONE, *[(part,) for part in (
            (0, 2), (0, FORTY), (2, 2), (2, 4), (4, 2), (6, 9), (35, 21), (FORTY, 3), (3, FORTY), (FORTY, FORTY))])

    def test_bottom_nought_and_below_nought(self):
        self.wrong(ONE, *[(part,) for part in (
            (0, 0), (1, 0), (5, 0), (-1, 1), (1, -1), (-1, -1), (0, -1), (-3, 2), (3, -2), (-FORTY, 1))])

    def test_kinds_of_parts(self):
        self.wrong(ONE, *[(part,) for part in (
            0, 1, "0", None, True, (), (0,), (0, 1, 1), [0, 1], (True, 1), (False, 1), (1, True), (0, True), (1.0, 1),
            (1, 1.0), ("1", 1), (1, "1"), (None, 1), (1, None), ((0,), 1), (0, (1,)), ((0, 1), (1, 1)))])
        self.wrong(ONE, [(0, 1)], (0, 1))

    def test_one_for_each_tub(self):
        self.right(THREE, ((0, 1), (1, 2), (3, 1)))
        self.wrong(THREE, (), ((0, 1),), ((0, 1), (0, 1)), ((0, 1),) * 4, ((0, 1), (1, 2), (2, 2)),
                   ((0, 1), (1, 2), [3, 1]))
        self.wrong(ONE, (), ((0, 1), (0, 1)))


if __name__ == "__main__":
    unittest.main()
