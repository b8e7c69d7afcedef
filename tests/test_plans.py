"""Points 2, 12, 13 and 19: creating and reading plans, their properties, their length and when they are equal."""

import inspect
import itertools
import unittest

from samples import (
    CLASSES, FORTY_DIGITS, LARGEST, NAMES, NEITHER, NOT_NAMES, assert_different_both_ways, assert_equal_both_ways,
    assert_raises, assert_refused, state,
)

from fillorder.envelopes import Envelope, Goal, GoalReserve, Reserve
from fillorder.errors import InvalidEnvelopes, InvalidText, UnknownEnvelope
from fillorder.plans import Plan

NO_ENVELOPES = NEITHER + (0, 5, FORTY_DIGITS, "", "food", "food:50", "food:20/50", ("food", 50, 20), ["food", 50])

WRONG_TEXTS = (
    "", " ", ",", ", ", "rent", "rent:50,", "rent:50, ", ", rent:50", ",rent:50", "rent:50,food:30", "rent:50 food:30",
    "rent:50,  food:30", "rent:50 , food:30", "rent:50, , food:30", "rent:50,, food:30", "rent:50; food:30",
    "rent:50, food:30,", "rent:50, food:30, ", " rent:50, food:30", "rent:50, food:30\n", "rent:50,\tfood:30",
    "rent:50, food", "rent, food:30", "rent:50, food:0", "rent:50, food:31/30", "rent:50, food:1000001",
    "rent:50, food:030", "rent:050, food:30", "rent:50, Food:30", "rent:50, foodfoodf:30", "rent:50, food:-1/30",
    "rent:50, food:5/30/30", "rent:50, food:" + "1" * 5000, "a:1, " * 39 + "b:1",
    # Two equal names.
    "rent:50, rent:50", "rent:50, rent:30", "rent:50, food:30, rent:9", "fun:9, rent:50, food:5/30, food:6/30",
    # Too many envelopes.
    "a:1, b:1, c:1, d:1, e:1, f:1, g:1", "a:1, b:1, c:1, d:1, e:1, f:1, f:1", "a:1, b:1, c:1, d:1, e:1, f:1, g:1, h:1",
)


def mixed(many):
    """Return envelopes of all kinds with different names."""
    return [CLASSES[at % 4](NAMES[at], 10 + at, at) for at in range(many)]


class TestInterface(unittest.TestCase):
    def test_methods_stand_in_the_class(self):
        listed = ("__init__", "__eq__", "__len__", "MOST", "read", "names", "levels", "total", "room", "lost",
                  "envelope", "pour", "spend", "flow", "move", "attempt")
        for name in listed:
            with self.subTest(name=name):
                self.assertIn(name, vars(Plan))
        self.assertEqual(Plan.__module__, "fillorder.plans")
        self.assertIsInstance(vars(Plan)["read"], classmethod)

    def test_arguments(self):
        self.assertEqual(str(inspect.signature(Plan)), "(*envelopes)")
        plan = Plan.read("rent:50")
        rows = ((plan.envelope, "(name)"), (plan.pour, "(*amounts)"), (plan.spend, "(**amounts)"),
                (plan.flow, "(amount)"), (plan.move, "(name, place)"), (plan.attempt, "(*deeds)"),
                (Plan.read, "(text)"))
        for method, arguments in rows:
            self.assertEqual(str(inspect.signature(method)), arguments)

    def test_most(self):
        self.assertEqual(Plan.MOST, 6)


class TestCreate(unittest.TestCase):
    def test_one_to_six_of_all_kinds(self):
        for many in range(1, 7):
            with self.subTest(many=many):
                row = mixed(many)
                plan = Plan(*row)
                self.assertEqual(len(plan), many)
                self.assertEqual(plan.names, tuple(item.name for item in row))
                self.assertEqual(plan.levels, tuple(range(many)))
                self.assertEqual([plan.total, plan.room, plan.lost], [sum(range(many)), 10 * many, 0])

    def test_each_kind_alone(self):
        for kind in CLASSES:
            food = kind("food", 50, 20)
            self.assertEqual(state(Plan(food)), [1, ("food",), (20,), 20, 30, 0, [state(food)]])

    def test_the_order_is_kept(self):
        for row in itertools.permutations(mixed(4)):
            self.assertEqual(Plan(*row).names, tuple(item.name for item in row))

    def test_none(self):
        assert_raises(self, InvalidEnvelopes, Plan)

    def test_too_many(self):
        for many in (7, 8):
            assert_raises(self, InvalidEnvelopes, Plan, *mixed(many))
        assert_raises(self, InvalidEnvelopes, Plan, *[None] * 100)

    def test_equal_names(self):
        for kind, other in itertools.product(CLASSES, CLASSES):
            with self.subTest(kind=kind.__name__, other=other.__name__):
                one, two = kind("food", 50), other("food", 30, 5)
                assert_raises(self, InvalidEnvelopes, Plan, one, two)
                assert_raises(self, InvalidEnvelopes, Plan, one, Envelope("rent", 9), two)
                assert_raises(self, InvalidEnvelopes, Plan, Envelope("rent", 9), one, two)

    def test_the_same_object_twice(self):
        food = Envelope("food", 50)
        assert_raises(self, InvalidEnvelopes, Plan, food, food)

    def test_no_envelopes(self):
        food, rent = Envelope("food", 50, 20), Goal("rent", 30)
        others = NO_ENVELOPES + (Plan(rent), [food], (food,), {"food": 5}, Envelope)
        for value in others:
            with self.subTest(value=value):
                for row in ((value,), (food, value), (value, food), (food, value, rent), (value, value)):
                    assert_raises(self, InvalidEnvelopes, Plan, *row)
        self.assertEqual([state(food), state(rent)], [state(Envelope("food", 50, 20)), state(Goal("rent", 30))])

    def test_equal_envelopes_of_other_names(self):
        self.assertEqual(Plan(Envelope("a", 5, 1), Envelope("b", 5, 1)).levels, (1, 1))


class TestUsedObjects(unittest.TestCase):
    def test_the_same_objects(self):
        row = mixed(6)
        plan = Plan(*row)
        for item in row:
            self.assertIs(plan.envelope(item.name), item)

    def test_the_plan_changes_them(self):
        food, trip = Envelope("food", 50, 20), Goal("trip", 9)
        plan = Plan(food, trip)
        plan.pour(45)
        self.assertEqual([food.level, trip.level, trip.reached], [50, 9, True])
        plan.spend(food=10, trip=4)
        self.assertEqual([food.level, trip.level], [40, 5])

    def test_the_plan_follows_their_changes(self):
        food, rent = Envelope("food", 50, 20), Reserve("rent", 30)
        plan = Plan(food, rent)
        food.put(5)
        rent.cap = 40
        food.take(1)
        self.assertEqual([plan.levels, plan.total, plan.room, plan.lost], [(24, 0), 24, 66, 0])

    def test_two_plans_of_one_envelope(self):
        food = Envelope("food", 50)
        one, other = Plan(food), Plan(Envelope("rent", 5), food)
        one.pour(60)
        self.assertEqual([other.levels, one.lost, other.lost], [(0, 50), 10, 0])


class TestRead(unittest.TestCase):
    def test_example_of_point_12(self):
        self.assertEqual(Plan.read("rent:50, food:5/30").levels, (0, 5))

    def test_valid(self):
        rows = (
            ("a:1", Plan(Envelope("a", 1))), ("rent:50", Plan(Envelope("rent", 50))),
            ("rent:0/50", Plan(Envelope("rent", 50))), ("rent:50/50", Plan(Envelope("rent", 50, 50))),
            ("rent:50, food:5/30", Plan(Envelope("rent", 50), Envelope("food", 30, 5))),
            ("food:5/30, rent:50", Plan(Envelope("food", 30, 5), Envelope("rent", 50))),
            ("abcdefgh:1000000/1000000, b:1000000",
             Plan(Envelope("abcdefgh", LARGEST, LARGEST), Envelope("b", LARGEST))),
        )
        for text, plan in rows:
            with self.subTest(text=text):
                self.assertEqual(Plan.read(text), plan)
                self.assertEqual(state(Plan.read(text)), state(plan))

    def test_one_to_six(self):
        for many in range(1, 7):
            row = [Envelope(NAMES[at], 10 + at, at) for at in range(many)]
            text = ", ".join(item.text() for item in row)
            self.assertEqual(Plan.read(text), Plan(*row))

    def test_plain_envelopes(self):
        plan = Plan.read("rent:50, food:5/30")
        self.assertEqual([type(plan), type(plan.envelope("rent")), type(plan.envelope("food"))],
                         [Plan, Envelope, Envelope])

    def test_new_each_time(self):
        one, other = Plan.read("rent:50"), Plan.read("rent:50")
        one.pour(60)
        self.assertEqual([one.levels, one.lost, other.levels, other.lost], [(50,), 10, (0,), 0])

    def test_called_on_a_plan(self):
        plan = Plan.read("rent:50")
        self.assertEqual(plan.read("food:9").names, ("food",))
        self.assertEqual(plan.names, ("rent",))

    def test_wrong_texts(self):
        for text in WRONG_TEXTS:
            with self.subTest(text=text):
                assert_raises(self, InvalidText, Plan.read, text)

    def test_one_character_changed(self):
        text = "rent:50, food:5/30"
        # Each sign here makes the text wrong in every place.
        for sign in "A_-+;.\n\t\u00e9\u0661\uff0c#":
            for at in range(len(text)):
                changed = text[:at] + sign + text[at + 1:]
                with self.subTest(changed=changed):
                    assert_raises(self, InvalidText, Plan.read, changed)

    def test_one_character_changed_to_one_of_its_own(self):
        text = "rent:50, food:5/30"
        rows = (
            (0, "a", ("aent", "food"), (0, 5)), (4, ",", None, None), (4, "/", None, None), (5, "0", None, None),
            (5, "9", ("rent", "food"), (0, 5)), (7, " ", None, None), (7, ":", None, None), (8, ",", None, None),
            (8, "a", None, None), (14, "0", ("rent", "food"), (0, 0)), (14, " ", None, None),
            (15, ":", None, None), (15, "7", ("rent", "food"), (0, 0)), (16, "0", None, None),
        )
        for at, sign, names, levels in rows:
            changed = text[:at] + sign + text[at + 1:]
            with self.subTest(changed=changed):
                if names is None:
                    assert_raises(self, InvalidText, Plan.read, changed)
                else:
                    self.assertEqual([Plan.read(changed).names, Plan.read(changed).levels], [names, levels])

    def test_one_character_less_or_more(self):
        text = "rent:50, food:5/30"
        for at in (4, 7, 8, 13):
            assert_raises(self, InvalidText, Plan.read, text[:at] + text[at + 1:])
        for at in range(len(text) + 1):
            assert_raises(self, InvalidText, Plan.read, text[:at] + " " + text[at:])
            assert_raises(self, InvalidText, Plan.read, text[:at] + "," + text[at:])

    def test_other_values(self):
        for value in NEITHER + (0, 50, FORTY_DIGITS, ["rent:50"], ("rent:50", "food:30"), Envelope("rent", 50)):
            with self.subTest(value=value):
                assert_raises(self, InvalidText, Plan.read, value)


class TestProperties(unittest.TestCase):
    def test_before_and_after_pours_and_spendings(self):
        plan = Plan(Envelope("food", 50, 20), Goal("trip", 9, 8), Reserve("rent", 30, 10, floor=5),
                    GoalReserve("car", 7, floor=2))
        names = ("food", "trip", "rent", "car")
        self.assertEqual(state(plan)[:6], [4, names, (20, 8, 10, 0), 38, 58, 0])
        plan.pour(31)
        self.assertEqual(state(plan)[:6], [4, names, (50, 9, 10, 0), 69, 27, 0])
        plan.spend(food=50, trip=9, rent=5)
        self.assertEqual(state(plan)[:6], [4, names, (0, 0, 5, 0), 5, 91, 0])
        plan.pour(100)
        self.assertEqual(state(plan)[:6], [4, names, (50, 9, 30, 7), 96, 0, 9])
        plan.spend(car=5)
        plan.pour(6, 1)
        self.assertEqual(state(plan)[:6], [4, names, (50, 9, 30, 7), 96, 0, 11])

    def test_kinds_of_values(self):
        plan = Plan.read("rent:50, food:5/30")
        self.assertEqual([type(plan.names), type(plan.levels)], [tuple, tuple])
        self.assertEqual([type(plan.total), type(plan.room), type(plan.lost)], [int, int, int])

    def test_largest(self):
        plan = Plan(*[Envelope(name, LARGEST, LARGEST - 1) for name in NAMES[:6]])
        self.assertEqual([plan.total, plan.room], [6 * LARGEST - 6, 6])


class TestEnvelope(unittest.TestCase):
    def test_each_name(self):
        plan = Plan(*mixed(6))
        for at in range(6):
            self.assertEqual(plan.envelope(NAMES[at]), mixed(6)[at])

    def test_unknown_names(self):
        plan = Plan.read("rent:50, food:5/30")
        for name in ("fun", "ren", "rents", "r", "food:5/30", "rent, food") + NOT_NAMES:
            with self.subTest(name=name):
                assert_refused(self, UnknownEnvelope, plan, plan.envelope, name)

    def test_other_values(self):
        plan = Plan.read("rent:50, food:5/30")
        for value in (["rent"], ("rent",), ("rent", "food"), 0, 1, plan.envelope("rent"), plan):
            with self.subTest(value=value):
                assert_refused(self, UnknownEnvelope, plan, plan.envelope, value)


class TestEquality(unittest.TestCase):
    def test_equal(self):
        for many in range(1, 7):
            assert_equal_both_ways(self, Plan(*mixed(many)), Plan(*mixed(many)))
        plan = Plan(*mixed(3))
        assert_equal_both_ways(self, plan, plan)

    def test_equal_by_another_way(self):
        one, other = Plan.read("rent:50, food:30"), Plan.read("food:9/30, rent:50/50")
        one.pour(59)
        other.move("rent", 0)
        assert_equal_both_ways(self, one, other)

    def test_another_order(self):
        one, other = Plan.read("rent:50, food:5/30"), Plan.read("food:5/30, rent:50")
        assert_different_both_ways(self, one, other)
        other.move("rent", 0)
        assert_equal_both_ways(self, one, other)

    def test_another_loss(self):
        one, other = Plan.read("rent:50/50"), Plan.read("rent:50/50")
        one.pour(1)
        assert_different_both_ways(self, one, other)
        other.pour(0, 1)
        assert_equal_both_ways(self, one, other)
        other.pour(1)
        assert_different_both_ways(self, one, other)

    def test_one_envelope_different(self):
        others = (
            Envelope("fum", 30, 5), Envelope("fun", 31, 5), Envelope("fun", 30, 6), Goal("fun", 30, 5),
            Reserve("fun", 30, 5), GoalReserve("fun", 30, 5),
        )
        for other in others:
            for before, behind in itertools.product((0, 1, 2), (0, 1, 2)):
                with self.subTest(other=state(other), before=before, behind=behind):
                    front, back = mixed(before), mixed(before + behind)[before:]
                    one = Plan(*front, Envelope("fun", 30, 5), *back)
                    assert_equal_both_ways(self, one, Plan(*front, Envelope("fun", 30, 5), *back))
                    assert_different_both_ways(self, one, Plan(*front, other, *back))

    def test_floor_and_reached_different(self):
        assert_different_both_ways(self, Plan(Reserve("rent", 30, 5)), Plan(Reserve("rent", 30, 5, floor=1)))
        one, other = Plan(Goal("trip", 9, 9)), Plan(Goal("trip", 9, 4))
        one.spend(trip=5)
        self.assertEqual(one.levels, other.levels)
        assert_different_both_ways(self, one, other)

    def test_more_envelopes(self):
        for many in range(1, 6):
            assert_different_both_ways(self, Plan(*mixed(many)), Plan(*mixed(many + 1)))

    def test_no_plans(self):
        plan = Plan.read("food:20/50")
        others = NO_ENVELOPES + (Envelope("food", 50, 20), [Envelope("food", 50, 20)], (Envelope("food", 50, 20),),
                                 object(), Plan, {"food": 50}, 1, 50)
        for other in others:
            with self.subTest(other=other):
                assert_different_both_ways(self, plan, other)


if __name__ == "__main__":
    unittest.main()
