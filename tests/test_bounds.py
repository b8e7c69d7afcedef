"""Points 5 and 9: the cap and the floor are assigned."""

import unittest

from samples import CLASSES, FAR_OUT, GOALS, LARGEST, NOT_INTEGERS, RESERVES, assert_refused, state

from fillorder.envelopes import Envelope
from fillorder.errors import InvalidCap, InvalidFloor


def assign_cap(envelope, value):
    envelope.cap = value


def assign_floor(envelope, value):
    envelope.floor = value


# Both ways to change a bound; each returns None.
CAP_CHANGES = (assign_cap, lambda envelope, value: envelope.set_cap(value))
FLOOR_CHANGES = (assign_floor, lambda envelope, value: envelope.set_floor(value))


class TestCap(unittest.TestCase):
    def test_valid(self):
        for kind in CLASSES:
            for change in CAP_CHANGES:
                for cap in (20, 21, 49, 50, 51, LARGEST):
                    with self.subTest(kind=kind.__name__, cap=cap):
                        food = kind("food", 50, 20)
                        self.assertIsNone(change(food, cap))
                        self.assertEqual([food.cap, food.level, food.room], [cap, 20, cap - 20])

    def test_least_cap(self):
        for kind in CLASSES:
            for change in CAP_CHANGES:
                food = kind("food", 50)
                change(food, 1)
                self.assertEqual([food.cap, food.room], [1, 1])

    def test_invalid(self):
        for kind in CLASSES:
            for change in CAP_CHANGES:
                for cap in NOT_INTEGERS + FAR_OUT + (0, 1, 19, LARGEST + 1):
                    with self.subTest(kind=kind.__name__, cap=cap):
                        food = kind("food", 50, 20)
                        assert_refused(self, InvalidCap, food, change, food, cap)

    def test_invalid_when_empty(self):
        for kind in CLASSES:
            for change in CAP_CHANGES:
                for cap in NOT_INTEGERS + FAR_OUT + (0, LARGEST + 1):
                    with self.subTest(kind=kind.__name__, cap=cap):
                        food = kind("food", 50)
                        assert_refused(self, InvalidCap, food, change, food, cap)

    def test_put_and_take_use_the_new_cap(self):
        food = Envelope("food", 50, 20)
        food.cap = 60
        self.assertEqual([food.put(45), food.level], [5, 60])
        food.take(50)
        food.set_cap(10)
        self.assertEqual([food.put(3), food.level], [3, 10])

    def test_level_is_the_present_one(self):
        for change in CAP_CHANGES:
            food = Envelope("food", 50, 20)
            food.put(10)
            assert_refused(self, InvalidCap, food, change, food, 29)
            food.take(25)
            change(food, 5)
            self.assertEqual(food.text(), "food:5/5")

    def test_other_envelopes_keep_theirs(self):
        food, rent = Envelope("food", 50), Envelope("rent", 50)
        food.cap = 60
        self.assertEqual([rent.cap, Envelope("fun", 50).cap], [50, 50])

    def test_a_goal_with_a_higher_cap_is_filled_up_to_it(self):
        for kind in GOALS:
            trip = kind("trip", 90, 80)
            trip.cap = 100
            self.assertEqual([trip.put(10), trip.reached, trip.put(10), trip.reached], [0, False, 0, True])


class TestFloor(unittest.TestCase):
    def test_valid(self):
        for kind in RESERVES:
            for change in FLOOR_CHANGES:
                for floor in (0, 1, 20, 49, 50):
                    with self.subTest(kind=kind.__name__, floor=floor):
                        rent = kind("rent", 50, 50, floor=5)
                        self.assertIsNone(change(rent, floor))
                        self.assertEqual([rent.floor, rent.level, rent.cap, rent.free()], [floor, 50, 50, 50 - floor])

    def test_above_the_level(self):
        for kind in RESERVES:
            for change in FLOOR_CHANGES:
                rent = kind("rent", 50, 20)
                change(rent, 50)
                self.assertEqual([rent.floor, rent.level, rent.free()], [50, 20, 0])

    def test_invalid(self):
        for kind in RESERVES:
            for change in FLOOR_CHANGES:
                for floor in NOT_INTEGERS + FAR_OUT + (51, LARGEST, LARGEST + 1):
                    with self.subTest(kind=kind.__name__, floor=floor):
                        rent = kind("rent", 50, 20, floor=5)
                        assert_refused(self, InvalidFloor, rent, change, rent, floor)

    def test_bound_is_the_present_cap(self):
        for kind in RESERVES:
            for change in FLOOR_CHANGES:
                rent = kind("rent", 50, 20, floor=5)
                rent.cap = 60
                change(rent, 60)
                self.assertEqual(rent.floor, 60)
                rent.cap = 40
                assert_refused(self, InvalidFloor, rent, change, rent, 41)
                change(rent, 40)
                self.assertEqual(rent.floor, 40)

    def test_stays_above_a_lowered_cap(self):
        for kind in RESERVES:
            for change in CAP_CHANGES:
                with self.subTest(kind=kind.__name__):
                    rent = kind("rent", 50, 10, floor=30)
                    change(rent, 20)
                    self.assertEqual([rent.cap, rent.floor, rent.level, rent.free()], [20, 30, 10, 0])
                    rent.put(10)
                    self.assertEqual([rent.level, rent.floor, rent.free()], [20, 30, 0])
                    change(rent, 50)
                    rent.put(30)
                    self.assertEqual([rent.level, rent.floor, rent.free()], [50, 30, 20])

    def test_even_its_own_value_is_refused_above_the_cap(self):
        for kind in RESERVES:
            for change in FLOOR_CHANGES:
                rent = kind("rent", 50, 10, floor=30)
                rent.cap = 20
                assert_refused(self, InvalidFloor, rent, change, rent, 30)
                self.assertEqual(state(rent)[-1], 30)


if __name__ == "__main__":
    unittest.main()
