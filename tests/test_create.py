"""Points 2, 4, 5, 9 and 10: creating envelopes, and their properties."""

import inspect
import unittest

from samples import (
    CLASSES, FAR_OUT, FORTY_DIGITS, LARGEST, NAMES, NOT_INTEGERS, NOT_NAMES, RESERVES, assert_raises,
)

from fillorder import envelopes
from fillorder.envelopes import Envelope, Goal, GoalReserve, Reserve
from fillorder.errors import InvalidCap, InvalidFloor, InvalidLevel, InvalidName


class TestInterface(unittest.TestCase):
    def test_kinds(self):
        self.assertTrue(issubclass(Goal, Envelope))
        self.assertTrue(issubclass(Reserve, Envelope))
        self.assertTrue(issubclass(GoalReserve, Goal))
        self.assertTrue(issubclass(GoalReserve, Reserve))
        self.assertFalse(issubclass(Goal, Reserve))
        self.assertFalse(issubclass(Reserve, Goal))

    def test_classes_are_defined_in_their_file(self):
        for kind in CLASSES:
            self.assertEqual(kind.__module__, "fillorder.envelopes")
            self.assertIs(getattr(envelopes, kind.__name__), kind)

    def test_arguments(self):
        for kind in (Envelope, Goal):
            self.assertEqual(str(inspect.signature(kind)), "(name, cap, level=0)")
        for kind in RESERVES:
            self.assertEqual(str(inspect.signature(kind)), "(name, cap, level=0, *, floor=0)")

    def test_methods_stand_in_the_class_that_lists_them(self):
        listed = {
            Envelope: ("__init__", "__eq__", "name", "cap", "level", "room", "set_cap", "put", "free", "take",
                       "text", "read", "is_name", "LARGEST"),
            Goal: ("__init__", "reached", "free"),
            Reserve: ("__init__", "floor", "set_floor", "free"),
            GoalReserve: ("__init__", "free"),
        }
        for kind, names in listed.items():
            for name in names:
                with self.subTest(kind=kind.__name__, name=name):
                    self.assertIn(name, vars(kind))

    def test_static_and_class_method(self):
        self.assertIsInstance(vars(Envelope)["is_name"], staticmethod)
        self.assertIsInstance(vars(Envelope)["read"], classmethod)

    def test_largest(self):
        for kind in CLASSES:
            self.assertEqual(kind.LARGEST, LARGEST)


class TestCreate(unittest.TestCase):
    def test_properties(self):
        for kind in CLASSES:
            with self.subTest(kind=kind.__name__):
                food = kind("food", 50, 20)
                self.assertEqual([food.name, food.cap, food.level, food.room], ["food", 50, 20, 30])

    def test_empty_by_default(self):
        for kind in CLASSES:
            with self.subTest(kind=kind.__name__):
                food = kind("food", 50)
                self.assertEqual([food.level, food.room], [0, 50])

    def test_by_keywords(self):
        for kind in CLASSES:
            food = kind(level=20, cap=50, name="food")
            self.assertEqual([food.name, food.cap, food.level], ["food", 50, 20])

    def test_example_of_point_5(self):
        food = Envelope("food", 50, 20)
        food.cap = 60
        self.assertEqual([food.level, food.room, Envelope.LARGEST], [20, 40, 1000000])

    def test_other_properties_are_not_assigned(self):
        food = GoalReserve("food", 50, 20, floor=5)
        for name, value in (("name", "rent"), ("level", 7), ("room", 7), ("reached", True)):
            with self.subTest(name=name), self.assertRaises(AttributeError):
                setattr(food, name, value)
        self.assertEqual(food, GoalReserve("food", 50, 20, floor=5))

    def test_names(self):
        for kind in CLASSES:
            for name in NAMES:
                with self.subTest(kind=kind.__name__, name=name):
                    self.assertEqual(kind(name, 50).name, name)

    def test_wrong_names(self):
        for kind in CLASSES:
            for name in NOT_NAMES:
                with self.subTest(kind=kind.__name__, name=name):
                    assert_raises(self, InvalidName, kind, name, 50)

    def test_caps_at_the_bounds(self):
        for kind in CLASSES:
            for cap in (1, 2, LARGEST - 1, LARGEST):
                with self.subTest(kind=kind.__name__, cap=cap):
                    self.assertEqual([kind("food", cap).cap, kind("food", cap).room], [cap, cap])

    def test_wrong_caps(self):
        for kind in CLASSES:
            for cap in NOT_INTEGERS + FAR_OUT + (0, LARGEST + 1):
                with self.subTest(kind=kind.__name__, cap=cap):
                    assert_raises(self, InvalidCap, kind, "food", cap)

    def test_levels_at_the_bounds(self):
        for kind in CLASSES:
            for cap in (1, 50, LARGEST):
                for level in (0, 1, cap - 1, cap):
                    with self.subTest(kind=kind.__name__, cap=cap, level=level):
                        food = kind("food", cap, level)
                        self.assertEqual([food.cap, food.level, food.room], [cap, level, cap - level])

    def test_wrong_levels(self):
        for kind in CLASSES:
            for cap in (1, 50, LARGEST):
                for level in NOT_INTEGERS + FAR_OUT + (cap + 1,):
                    with self.subTest(kind=kind.__name__, cap=cap, level=level):
                        assert_raises(self, InvalidLevel, kind, "food", cap, level)

    def test_floors_at_the_bounds(self):
        for kind in RESERVES:
            self.assertEqual(kind("rent", 50).floor, 0)
            for cap in (1, 50, LARGEST):
                for floor in (0, 1, cap - 1, cap):
                    with self.subTest(kind=kind.__name__, cap=cap, floor=floor):
                        rent = kind("rent", cap, floor=floor)
                        self.assertEqual([rent.cap, rent.level, rent.floor], [cap, 0, floor])

    def test_wrong_floors(self):
        for kind in RESERVES:
            for cap in (1, 50, LARGEST):
                for floor in NOT_INTEGERS + FAR_OUT + (cap + 1,):
                    with self.subTest(kind=kind.__name__, cap=cap, floor=floor):
                        assert_raises(self, InvalidFloor, kind, "rent", cap, cap, floor=floor)

    def test_floor_only_by_keyword(self):
        for kind in RESERVES:
            with self.assertRaises(TypeError):
                kind("rent", 50, 20, 5)


class TestFirstError(unittest.TestCase):
    def test_name_before_cap_before_level(self):
        for kind in CLASSES:
            for bad in (True, None, "5", [5], (5,), FORTY_DIGITS, -1):
                with self.subTest(kind=kind.__name__, bad=bad):
                    assert_raises(self, InvalidName, kind, "Food", bad, bad)
                    assert_raises(self, InvalidName, kind, "Food", 50, bad)
                    assert_raises(self, InvalidName, kind, "Food", bad, 5)
                    assert_raises(self, InvalidCap, kind, "food", bad, bad)
                    assert_raises(self, InvalidLevel, kind, "food", 50, bad)

    def test_floor_last(self):
        for kind in RESERVES:
            for bad in (True, None, "5", [5], (5,), FORTY_DIGITS, -1):
                with self.subTest(kind=kind.__name__, bad=bad):
                    assert_raises(self, InvalidName, kind, "", bad, bad, floor=bad)
                    assert_raises(self, InvalidName, kind, "", 50, 5, floor=bad)
                    assert_raises(self, InvalidCap, kind, "rent", bad, bad, floor=bad)
                    assert_raises(self, InvalidCap, kind, "rent", bad, 5, floor=bad)
                    assert_raises(self, InvalidLevel, kind, "rent", 50, bad, floor=bad)
                    assert_raises(self, InvalidFloor, kind, "rent", 50, 5, floor=bad)


if __name__ == "__main__":
    unittest.main()
