"""Points 6, 8, 9 and 10: put, free, take and reached."""

import unittest

from samples import CLASSES, GOALS, LARGEST, LARGEST_AMOUNT, NOT_AMOUNTS, RESERVES, assert_refused, state

from fillorder.envelopes import Envelope, Goal, GoalReserve, Reserve
from fillorder.errors import InvalidAmount, NotEnough


class TestNotAmounts(unittest.TestCase):
    def test_put_and_take(self):
        for kind in CLASSES:
            for level in (0, 20, 50):
                for value in NOT_AMOUNTS:
                    with self.subTest(kind=kind.__name__, level=level, value=value):
                        food = kind("food", 50, level)
                        assert_refused(self, InvalidAmount, food, food.put, value)
                        assert_refused(self, InvalidAmount, food, food.take, value)


class TestPut(unittest.TestCase):
    def test_example_of_point_6(self):
        food = Envelope("food", 50, 20)
        self.assertEqual(food.put(45), 15)
        self.assertEqual([food.level, food.room, food.free()], [50, 0, 50])

    def test_amounts_around_the_room(self):
        rows = ((0, 20, 0), (1, 21, 0), (29, 49, 0), (30, 50, 0), (31, 50, 1), (LARGEST_AMOUNT, 50, 999999970))
        for kind in CLASSES:
            for amount, level, left in rows:
                with self.subTest(kind=kind.__name__, amount=amount):
                    food = kind("food", 50, 20)
                    self.assertEqual(food.put(amount), left)
                    self.assertEqual([food.cap, food.level, food.room], [50, level, 50 - level])

    def test_into_a_full_one(self):
        for kind in CLASSES:
            food = kind("food", 50, 50)
            self.assertEqual([food.put(0), food.put(1), food.put(7), food.level], [0, 1, 7, 50])

    def test_largest_envelope(self):
        for kind in CLASSES:
            food = kind("food", LARGEST)
            self.assertEqual(food.put(LARGEST_AMOUNT), LARGEST_AMOUNT - LARGEST)
            self.assertEqual([food.level, food.room], [LARGEST, 0])

    def test_one_after_another(self):
        for kind in CLASSES:
            food = kind("food", 9)
            self.assertEqual([food.put(4), food.put(4), food.put(4), food.put(4)], [0, 0, 3, 4])
            self.assertEqual(food.level, 9)

    def test_a_refused_put_reaches_nothing(self):
        for kind in GOALS:
            trip = kind("trip", 50, 40)
            trip.cap = 40
            assert_refused(self, InvalidAmount, trip, trip.put, -1)
            self.assertIs(trip.reached, False)


class TestTake(unittest.TestCase):
    def test_free_is_the_level(self):
        for level in (0, 1, 20, 50):
            self.assertEqual(Envelope("food", 50, level).free(), level)

    def test_amounts_up_to_free(self):
        for amount in (0, 1, 19, 20):
            with self.subTest(amount=amount):
                food = Envelope("food", 50, 20)
                self.assertIsNone(food.take(amount))
                self.assertEqual([food.level, food.room, food.free()], [20 - amount, 30 + amount, 20 - amount])

    def test_more_than_free(self):
        food = Envelope("food", 50, 20)
        for amount in (21, 50, 51, LARGEST_AMOUNT):
            with self.subTest(amount=amount):
                assert_refused(self, NotEnough, food, food.take, amount)

    def test_free_and_not_enough_of_all_kinds(self):
        rows = (
            (Envelope("food", 50, 20), 20), (Envelope("food", 50), 0),
            (Goal("trip", 50, 50), 50), (Goal("trip", 50, 49), 0),
            (Reserve("rent", 50, 20, floor=5), 15), (Reserve("rent", 50, 5, floor=20), 0),
            (GoalReserve("car", 50, 50, floor=5), 45), (GoalReserve("car", 50, 49, floor=5), 0),
        )
        for envelope, free in rows:
            with self.subTest(envelope=state(envelope)):
                level = envelope.level
                self.assertEqual(envelope.free(), free)
                assert_refused(self, NotEnough, envelope, envelope.take, free + 1)
                assert_refused(self, NotEnough, envelope, envelope.take, LARGEST_AMOUNT)
                self.assertIsNone(envelope.take(0))
                self.assertEqual([envelope.level, envelope.free()], [level, free])
                self.assertIsNone(envelope.take(free))
                self.assertEqual([envelope.level, envelope.free()], [level - free, 0])
                assert_refused(self, NotEnough, envelope, envelope.take, 1)

    def test_put_and_take_in_turn(self):
        food = Envelope("food", 50, 20)
        self.assertEqual([food.put(10), food.take(25), food.put(50), food.take(50), food.put(0)],
                         [0, None, 5, None, 0])
        self.assertEqual([food.level, food.room], [0, 50])


class TestReached(unittest.TestCase):
    def test_example_of_point_8(self):
        trip = Goal("trip", 90, 80)
        assert_refused(self, NotEnough, trip, trip.take, 5)
        self.assertEqual([trip.level, trip.reached, trip.free()], [80, False, 0])

    def test_at_the_creation(self):
        for kind in GOALS:
            for cap in (1, 90, LARGEST):
                with self.subTest(kind=kind.__name__, cap=cap):
                    self.assertIs(kind("trip", cap, cap).reached, True)
                    self.assertIs(kind("trip", cap, cap - 1).reached, False)
                    self.assertIs(kind("trip", cap).reached, False)

    def test_by_a_put(self):
        for kind in GOALS:
            for amount, reached in ((0, False), (9, False), (10, True), (11, True), (LARGEST_AMOUNT, True)):
                with self.subTest(kind=kind.__name__, amount=amount):
                    trip = kind("trip", 90, 80)
                    trip.put(amount)
                    self.assertIs(trip.reached, reached)
                    self.assertEqual(trip.free(), 90 if reached else 0)

    def test_not_by_the_cap_alone(self):
        for kind in GOALS:
            with self.subTest(kind=kind.__name__):
                trip = kind("trip", 90, 80)
                trip.cap = 80
                self.assertEqual([trip.room, trip.reached, trip.free()], [0, False, 0])
                assert_refused(self, NotEnough, trip, trip.take, 1)
                trip.set_cap(80)
                self.assertIs(trip.reached, False)

    def test_full_after_any_put(self):
        for kind in GOALS:
            for amount in (0, 5):
                with self.subTest(kind=kind.__name__, amount=amount):
                    trip = kind("trip", 90, 80)
                    trip.cap = 80
                    self.assertEqual(trip.put(amount), amount)
                    self.assertEqual([trip.reached, trip.free()], [True, 80])

    def test_remains(self):
        for kind in GOALS:
            with self.subTest(kind=kind.__name__):
                trip = kind("trip", 90, 80)
                trip.put(10)
                self.assertIsNone(trip.take(60))
                self.assertEqual([trip.level, trip.reached, trip.free()], [30, True, 30])
                trip.put(5)
                self.assertEqual([trip.reached, trip.free()], [True, 35])
                trip.cap = 100
                self.assertEqual([trip.reached, trip.free()], [True, 35])
                trip.take(35)
                self.assertEqual([trip.level, trip.reached, trip.free()], [0, True, 0])

    def test_a_take_of_nothing_reaches_nothing(self):
        for kind in GOALS:
            trip = kind("trip", 90, 80)
            trip.cap = 80
            self.assertIsNone(trip.take(0))
            self.assertEqual([trip.level, trip.reached], [80, False])


class TestFloor(unittest.TestCase):
    def test_example_of_point_9(self):
        self.assertEqual(Reserve("rent", 90, 50, floor=20).free(), 30)

    def test_example_of_point_10(self):
        self.assertEqual(
            [GoalReserve("car", 90, 50, floor=20).free(), GoalReserve("car", 90, 90, floor=20).free()], [0, 70])

    def test_free_around_the_floor(self):
        for level, free in ((0, 0), (19, 0), (20, 0), (21, 1), (90, 70)):
            with self.subTest(level=level):
                self.assertEqual(Reserve("rent", 90, level, floor=20).free(), free)

    def test_take_down_to_the_floor(self):
        for kind in RESERVES:
            with self.subTest(kind=kind.__name__):
                rent = kind("rent", 90, 90, floor=20)
                assert_refused(self, NotEnough, rent, rent.take, 71)
                self.assertIsNone(rent.take(70))
                self.assertEqual([rent.level, rent.floor, rent.free()], [20, 20, 0])
                assert_refused(self, NotEnough, rent, rent.take, 1)
                self.assertEqual([rent.put(5), rent.free()], [0, 5])

    def test_level_below_the_floor(self):
        for kind in RESERVES:
            rent = kind("rent", 90, 90)
            rent.take(80)
            rent.floor = 11
            self.assertEqual([rent.level, rent.free()], [10, 0])
            rent.floor = 9
            self.assertEqual(rent.free(), 1)

    def test_not_reached_although_above_the_floor(self):
        car = GoalReserve("car", 90, 89, floor=20)
        assert_refused(self, NotEnough, car, car.take, 1)
        self.assertEqual([car.put(1), car.free(), car.reached], [0, 70, True])


if __name__ == "__main__":
    unittest.main()
