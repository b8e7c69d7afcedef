"""Point 11: when two envelopes are equal."""

import unittest

from samples import CLASSES, GOALS, NEITHER, RESERVES, assert_different_both_ways, assert_equal_both_ways, state

from fillorder.envelopes import Envelope


class TestEquality(unittest.TestCase):
    def test_same_parts(self):
        for kind in CLASSES:
            for level in (0, 20, 50):
                with self.subTest(kind=kind.__name__, level=level):
                    assert_equal_both_ways(self, kind("food", 50, level), kind("food", 50, level))

    def test_itself(self):
        for kind in CLASSES:
            food = kind("food", 50, 20)
            assert_equal_both_ways(self, food, food)

    def test_same_floor(self):
        for kind in RESERVES:
            assert_equal_both_ways(self, kind("rent", 50, 20, floor=5), kind("rent", 50, 20, floor=5))

    def test_equal_by_another_way(self):
        for kind in CLASSES:
            food = kind("food", 60)
            food.put(20)
            food.cap = 50
            assert_equal_both_ways(self, food, kind("food", 50, 20))

    def test_one_part_different(self):
        for kind in CLASSES:
            food = kind("food", 50, 20)
            for other in (kind("fooe", 50, 20), kind("food", 51, 20), kind("food", 50, 21)):
                with self.subTest(kind=kind.__name__, other=state(other)):
                    assert_different_both_ways(self, food, other)

    def test_swapped_parts(self):
        for kind in CLASSES:
            assert_different_both_ways(self, kind("food", 50, 20), kind("food", 51, 21))
            assert_different_both_ways(self, kind("food", 50, 20), kind("food", 49, 21))

    def test_floor_different(self):
        for kind in RESERVES:
            assert_different_both_ways(self, kind("rent", 50, 20, floor=5), kind("rent", 50, 20, floor=6))
            assert_different_both_ways(self, kind("rent", 50, 20), kind("rent", 50, 20, floor=50))

    def test_reached_different(self):
        for kind in GOALS:
            for level in (20, 50):
                with self.subTest(kind=kind.__name__, level=level):
                    reached = kind("trip", 50, 50)
                    reached.take(50 - level)
                    other = kind("trip", 60, level)
                    other.cap = 50
                    self.assertEqual([reached.level, other.level], [level, level])
                    self.assertEqual([reached.reached, other.reached], [True, False])
                    assert_different_both_ways(self, reached, other)

    def test_reached_same(self):
        for kind in GOALS:
            one, other = kind("trip", 50, 50), kind("trip", 30, 30)
            one.take(30)
            other.take(10)
            other.cap = 50
            assert_equal_both_ways(self, one, other)

    def test_different_classes(self):
        for level in (0, 20, 50):
            for kind in CLASSES:
                for other in CLASSES:
                    if kind != other:
                        with self.subTest(kind=kind.__name__, other=other.__name__, level=level):
                            assert_different_both_ways(self, kind("food", 50, level), other("food", 50, level))

    def test_no_envelopes(self):
        others = NEITHER + (0, 1, 20, 50, "food", "food:20/50", ("food", 50, 20), ["food", 50, 20], object(), Envelope)
        for kind in CLASSES:
            food = kind("food", 50, 20)
            for other in others + (state(food), {"food": 50}):
                with self.subTest(kind=kind.__name__, other=other):
                    assert_different_both_ways(self, food, other)

    def test_comparing_changes_nothing(self):
        for kind in CLASSES:
            food, rent = kind("food", 50, 20), kind("rent", 40, 40)
            before = [state(food), state(rent)]
            self.assertNotEqual(food, rent)
            self.assertEqual([state(food), state(rent)], before)


if __name__ == "__main__":
    unittest.main()
