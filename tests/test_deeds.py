"""Points 14 to 18: pour, spend, flow, move and attempt."""

import itertools
import unittest

from samples import (
    CLASSES, FAR_OUT, GOALS, LARGEST, LARGEST_AMOUNT, NAMES, NOT_AMOUNTS, NOT_INTEGERS, NOT_NAMES, assert_raises,
    assert_refused, state,
)

from fillorder.envelopes import Envelope, Goal, GoalReserve, Reserve
from fillorder.errors import InvalidAmount, InvalidPlace, NotEnough, UnknownEnvelope
from fillorder.plans import Plan


def all_kinds():
    """Return a plan of all kinds of envelopes, with a loss."""
    plan = Plan(Envelope("food", 50, 50), Goal("trip", 9, 9), Reserve("rent", 30, 30, floor=5),
                GoalReserve("car", 7, 7, floor=2))
    plan.pour(3)
    plan.spend(food=30, rent=10)
    # Now a goal that is reached has room.
    plan.envelope("trip").cap = 12
    return plan


def unfilled():
    """Return a plan with goals that are not reached."""
    return Plan(Envelope("food", 50, 20), Goal("trip", 9, 8), Reserve("rent", 30, 10, floor=5),
                GoalReserve("car", 7, floor=2))


class TestPour(unittest.TestCase):
    def test_example_of_point_14(self):
        plan = Plan.read("rent:50, food:5/30")
        self.assertEqual([plan.pour(60, 10, 9), plan.levels, plan.lost], [4, (50, 30), 4])

    def test_none(self):
        for plan in (Plan.read("rent:50, food:5/30"), all_kinds(), unfilled()):
            before = state(plan)
            self.assertEqual(plan.pour(), 0)
            self.assertEqual(state(plan), before)

    def test_one_amount_in_order(self):
        rows = (
            (0, (0, 5, 0), 0), (1, (1, 5, 0), 0), (49, (49, 5, 0), 0), (50, (50, 5, 0), 0), (51, (50, 6, 0), 0),
            (74, (50, 29, 0), 0), (75, (50, 30, 0), 0), (76, (50, 30, 1), 0), (83, (50, 30, 8), 0),
            (84, (50, 30, 9), 0), (85, (50, 30, 9), 1), (LARGEST_AMOUNT, (50, 30, 9), LARGEST_AMOUNT - 84),
        )
        for amount, levels, lost in rows:
            with self.subTest(amount=amount):
                plan = Plan.read("rent:50, food:5/30, fun:9")
                self.assertEqual([plan.pour(amount), plan.levels, plan.lost], [lost, levels, lost])

    def test_at_the_room_and_one_beyond(self):
        for many in range(1, 7):
            for beyond in (-1, 0, 1):
                plan = Plan(*[CLASSES[at % 4](NAMES[at], LARGEST, at) for at in range(many)])
                self.assertEqual(plan.pour(plan.room + beyond), max(0, beyond))
                self.assertEqual([plan.room, plan.lost], [max(0, -beyond), max(0, beyond)])

    def test_returns_what_this_call_loses(self):
        plan = Plan.read("rent:5")
        self.assertEqual([plan.pour(7), plan.pour(0), plan.pour(3, 1), plan.lost], [2, 0, 4, 6])

    def test_several_amounts_and_their_sum(self):
        for amounts in itertools.product((0, 1, 20, 33, 60), repeat=3):
            with self.subTest(amounts=amounts):
                one, other, third = unfilled(), unfilled(), unfilled()
                self.assertEqual(one.pour(*amounts), other.pour(sum(amounts)))
                for amount in amounts:
                    third.pour(amount)
                self.assertEqual(one, other)
                self.assertEqual(one, third)

    def test_many_amounts(self):
        plan = Plan.read("rent:50, food:5/30")
        self.assertEqual([plan.pour(*[1] * 100), plan.levels], [25, (50, 30)])

    def test_goals_are_reached(self):
        plan = unfilled()
        plan.pour(30)
        self.assertIs(plan.envelope("trip").reached, False)
        plan.pour(1)
        self.assertIs(plan.envelope("trip").reached, True)
        self.assertIs(plan.envelope("car").reached, False)
        plan.pour(27)
        self.assertIs(plan.envelope("car").reached, True)

    def test_a_goal_with_a_lowered_cap(self):
        for kind in GOALS:
            trip = kind("trip", 9, 5)
            plan = Plan(Envelope("rent", 50), trip)
            trip.cap = 5
            self.assertIs(trip.reached, False)
            # Every pour puts something into each envelope, if only 0.
            plan.pour(1)
            self.assertEqual([plan.levels, trip.reached], [(1, 5), True])

    def test_not_amounts(self):
        for value in NOT_AMOUNTS:
            for amounts in ((value,), (3, value), (value, 3), (60, 10, 9, value), (3, value, 3), (value, value)):
                with self.subTest(amounts=amounts):
                    for plan in (Plan.read("rent:50, food:5/30"), all_kinds(), unfilled()):
                        assert_refused(self, InvalidAmount, plan, plan.pour, *amounts)


class TestSpend(unittest.TestCase):
    def test_examples_of_point_15(self):
        plan = Plan.read("rent:40/50, food:5/30")
        self.assertEqual([plan.spend(rent=10, food=2), plan.levels], [12, (30, 3)])
        plan = Plan.read("rent:40/50, food:5/30")
        assert_refused(self, NotEnough, plan, plan.spend, rent=10, food=6)

    def test_none(self):
        for plan in (Plan.read("rent:50, food:5/30"), all_kinds(), unfilled()):
            before = state(plan)
            self.assertEqual(plan.spend(), 0)
            self.assertEqual(state(plan), before)

    def test_one_two_and_three(self):
        rows = (
            ({"rent": 0}, 0, (40, 5, 9)), ({"rent": 40}, 40, (0, 5, 9)), ({"food": 5}, 5, (40, 0, 9)),
            ({"fun": 1}, 1, (40, 5, 8)), ({"fun": 9, "rent": 1}, 10, (39, 5, 0)),
            ({"food": 0, "rent": 0}, 0, (40, 5, 9)), ({"fun": 9, "food": 5, "rent": 40}, 54, (0, 0, 0)),
            ({"rent": 1, "food": 2, "fun": 3}, 6, (39, 3, 6)),
        )
        for amounts, spent, levels in rows:
            with self.subTest(amounts=amounts):
                plan = Plan.read("rent:40/50, food:5/30, fun:9/9")
                self.assertEqual([plan.spend(**amounts), plan.levels, plan.lost], [spent, levels, 0])

    def test_exactly_what_can_be_taken_and_one_more(self):
        for plan in (all_kinds(), unfilled()):
            for name in plan.names:
                free = plan.envelope(name).free()
                with self.subTest(name=name, free=free):
                    assert_refused(self, NotEnough, plan, plan.spend, **{name: free + 1})
                    assert_refused(self, NotEnough, plan, plan.spend, **{name: LARGEST_AMOUNT})
                    self.assertEqual(plan.spend(**{name: free}), free)
                    self.assertEqual(plan.envelope(name).free(), 0)

    def test_nothing_is_taken_after_an_error(self):
        for wrong, error in ((10, NotEnough), (-1, InvalidAmount), (None, InvalidAmount)):
            for name in ("rent", "food", "fun"):
                plan = Plan.read("rent:9/50, food:9/30, fun:9/9")
                amounts = {"rent": 1, "food": 1, "fun": 1, name: wrong}
                assert_refused(self, error, plan, plan.spend, **amounts)
        plan = Plan.read("rent:9/50, food:9/30, fun:9/9")
        for name in ("a", "g", "z"):
            assert_refused(self, UnknownEnvelope, plan, plan.spend, rent=1, food=1, fun=1, **{name: 1})

    def test_the_first_error_in_ascending_order(self):
        # Each keyword is wrong in one way, by its letters only the first one counts.
        wrong = {UnknownEnvelope: ("x", 1), InvalidAmount: ("", -1), NotEnough: ("", 6)}
        for kinds in itertools.permutations(wrong):
            amounts = {}
            for name, kind in zip(("fun", "food", "car"), reversed(kinds)):
                amounts[name + wrong[kind][0]] = wrong[kind][1]
            with self.subTest(amounts=amounts):
                for row in itertools.permutations(amounts):
                    plan = Plan.read("rent:5/50, fun:5/9, car:5/9, food:5/30")
                    ordered = {name: amounts[name] for name in row}
                    assert_refused(self, kinds[0], plan, plan.spend, rent=1, **ordered)

    def test_ascending_order_is_that_of_strings(self):
        plan = Plan.read("a:5/9, ab:5/9, b:5/9")
        assert_refused(self, NotEnough, plan, plan.spend, b=-1, ab=6)
        assert_refused(self, InvalidAmount, plan, plan.spend, b=6, ab=-1)
        assert_refused(self, InvalidAmount, plan, plan.spend, ab=6, a=-1)
        assert_refused(self, UnknownEnvelope, plan, plan.spend, a=-1, **{"Z": 1})
        assert_refused(self, InvalidAmount, plan, plan.spend, a=-1, **{"z": 1})
        assert_refused(self, UnknownEnvelope, plan, plan.spend, a=-1, **{"": 1})

    def test_the_errors_of_one_keyword(self):
        plan = Plan.read("rent:5/50")
        for value in NOT_AMOUNTS:
            with self.subTest(value=value):
                assert_refused(self, UnknownEnvelope, plan, plan.spend, food=value)
                assert_refused(self, InvalidAmount, plan, plan.spend, rent=value)
        assert_refused(self, UnknownEnvelope, plan, plan.spend, food=6)
        assert_refused(self, NotEnough, plan, plan.spend, rent=6)

    def test_keywords_that_are_no_names(self):
        plan = Plan.read("rent:5/50")
        for name in NOT_NAMES:
            if isinstance(name, str):
                with self.subTest(name=name):
                    assert_refused(self, UnknownEnvelope, plan, plan.spend, **{name: 1})

    def test_an_envelope_called_self(self):
        plan = Plan.read("self:5/50, plan:5/9, name:5/9, amounts:5/9")
        self.assertEqual([plan.spend(self=1, plan=2, name=3, amounts=4), plan.levels], [10, (4, 3, 2, 1)])
        plan = Plan.read("rent:5/50")
        assert_refused(self, UnknownEnvelope, plan, plan.spend, self=1)


class TestFlow(unittest.TestCase):
    def test_example_of_point_16(self):
        plan = Plan.read("rent:40/50, food:5/30")
        self.assertEqual(list(plan.flow(12)), [("rent", 10), ("food", 2)])

    def test_against_the_pour(self):
        for amount in (0, 1, 29, 30, 31, 32, 50, 57, 58, 59, LARGEST_AMOUNT):
            for make in (all_kinds, unfilled, lambda: Plan.read("rent:40/50, food:5/30")):
                with self.subTest(amount=amount):
                    plan, poured = make(), make()
                    pairs = list(plan.flow(amount))
                    self.assertEqual(state(plan), state(make()))
                    self.assertEqual(plan, make())
                    lost = poured.pour(amount)
                    gains = [after - before for before, after in zip(plan.levels, poured.levels)]
                    self.assertEqual(pairs, list(zip(plan.names, gains)))
                    self.assertEqual(sum(gains) + lost, amount)

    def test_after_a_move(self):
        plan = Plan.read("rent:40/50, food:5/30")
        plan.move("food", 0)
        self.assertEqual(list(plan.flow(30)), [("food", 25), ("rent", 5)])

    def test_changes_nothing_when_it_is_not_finished(self):
        plan = unfilled()
        for pair in plan.flow(50):
            self.assertEqual(pair, ("food", 30))
            break
        self.assertEqual(plan, unfilled())

    def test_all_pairs_belong_to_one_pour(self):
        plan = Plan.read("rent:40/50, food:5/30")
        pairs = []
        for pair in plan.flow(12):
            pairs.append(pair)
            plan.pour(30)
        self.assertEqual(pairs, [("rent", 10), ("food", 2)])

    def test_not_amounts(self):
        for value in NOT_AMOUNTS:
            with self.subTest(value=value):
                plan = unfilled()
                pairs = plan.flow(value)
                assert_refused(self, InvalidAmount, plan, list, pairs)
                assert_raises(self, InvalidAmount, next, iter(plan.flow(value)))


class TestMove(unittest.TestCase):
    def test_example_of_point_17(self):
        plan = Plan.read("rent:50, food:30, fun:9")
        self.assertIsNone(plan.move("fun", 0))
        self.assertEqual(plan.names, ("fun", "rent", "food"))

    def test_every_place(self):
        for many in range(1, 7):
            names = NAMES[:many]
            for name, place in itertools.product(names, range(many)):
                with self.subTest(many=many, name=name, place=place):
                    row = [CLASSES[at % 4](names[at], 10 + at, at) for at in range(many)]
                    plan = Plan(*row)
                    self.assertIsNone(plan.move(name, place))
                    expected = [other for other in names if other != name]
                    expected.insert(place, name)
                    self.assertEqual(plan.names, tuple(expected))
                    self.assertEqual([len(plan), plan.total, plan.lost], [many, sum(range(many)), 0])
                    for item in row:
                        self.assertIs(plan.envelope(item.name), item)

    def test_the_new_order_is_filled(self):
        plan = Plan.read("rent:50, food:30, fun:9")
        plan.move("rent", 2)
        plan.pour(40)
        self.assertEqual([plan.names, plan.levels], [("food", "fun", "rent"), (30, 9, 1)])

    def test_invalid_places(self):
        for many in range(1, 7):
            for place in NOT_INTEGERS + FAR_OUT + (many, many + 1, -many, 1000):
                with self.subTest(many=many, place=place):
                    plan = Plan(*[Envelope(name, 9) for name in NAMES[:many]])
                    for name in plan.names:
                        assert_refused(self, InvalidPlace, plan, plan.move, name, place)

    def test_unknown_names(self):
        plan = Plan.read("rent:50, food:30, fun:9")
        for name in NOT_NAMES + ("car", ["rent"], ("rent",)):
            with self.subTest(name=name):
                assert_refused(self, UnknownEnvelope, plan, plan.move, name, 0)

    def test_unknown_name_before_invalid_place(self):
        plan = Plan.read("rent:50, food:30, fun:9")
        for place in (3, -1, True, None, "0", [0]):
            assert_refused(self, UnknownEnvelope, plan, plan.move, "car", place)
            assert_refused(self, UnknownEnvelope, plan, plan.move, None, place)


class TestAttempt(unittest.TestCase):
    def test_example_of_point_18(self):
        plan = Plan.read("rent:50, food:30")
        self.assertEqual([plan.attempt(("pour", 60), ("spend", "food", 11)), plan.levels], [False, (0, 0)])

    def test_none(self):
        for make in (all_kinds, unfilled):
            plan = make()
            self.assertIs(plan.attempt(), True)
            self.assertEqual(plan, make())

    def test_possible(self):
        plan, other = unfilled(), unfilled()
        self.assertIs(plan.attempt(("pour", 31), ("spend", "trip", 9), ("pour", 100), ("spend", "car", 5)), True)
        other.pour(31)
        other.spend(trip=9)
        other.pour(100)
        other.spend(car=5)
        self.assertEqual(plan, other)
        self.assertEqual([plan.levels, plan.lost], [(50, 9, 30, 2), 64])

    def test_one_deed(self):
        plan = Plan.read("rent:50, food:30")
        self.assertIs(plan.attempt(("pour", 90)), True)
        self.assertEqual([plan.levels, plan.lost], [(50, 30), 10])
        self.assertIs(plan.attempt(("spend", "food", 30)), True)
        self.assertIs(plan.attempt(("spend", "food", 0)), True)
        self.assertEqual([plan.levels, plan.lost], [(50, 0), 10])

    def assert_undone(self, *deeds):
        """Check that the deeds are refused, and that nothing remains of them."""
        for make in (all_kinds, unfilled):
            plan, before = make(), make()
            self.assertIs(plan.attempt(*deeds), False)
            self.assertEqual(state(plan), state(before))
            self.assertEqual(plan, before)

    def test_a_refused_one_in_the_last_place(self):
        last = (
            ("spend", "food", 51), ("spend", "food", LARGEST_AMOUNT), ("spend", "fun", 0), ("spend", None, 0),
            ("spend", ["food"], 0), ("spend", "food", -1), ("spend", "food", True), ("spend", "food", None),
            ("pour", -1), ("pour", True), ("pour", None), ("pour", "5"), ("pour", LARGEST_AMOUNT + 1), ("pour", [5]),
        )
        for deed in last:
            with self.subTest(deed=deed):
                self.assert_undone(deed)
                self.assert_undone(("pour", 200), deed)
                self.assert_undone(("pour", 200), ("spend", "trip", 9), ("spend", "car", 1), ("pour", 20), deed)
                self.assert_undone(deed, ("pour", 200))
                self.assert_undone(("pour", 200), deed, ("spend", "trip", 9))

    def test_values_of_not_amounts(self):
        for value in NOT_AMOUNTS:
            with self.subTest(value=value):
                self.assert_undone(("pour", 200), ("pour", value))
                self.assert_undone(("pour", 200), ("spend", "food", value))

    def test_a_goal_filled_before_is_not_reached(self):
        for kind in GOALS:
            trip = kind("trip", 9, 5)
            plan, other = Plan(Envelope("rent", 3), trip), Plan(Envelope("rent", 3), kind("trip", 9, 5))
            self.assertIs(plan.attempt(("pour", 20), ("spend", "trip", 9), ("spend", "rent", 4)), False)
            self.assertEqual([trip.reached, trip.level, trip.free()], [False, 5, 0])
            self.assertEqual([plan.levels, plan.lost], [(0, 5), 0])
            self.assertEqual(plan, other)
            self.assertIs(plan.attempt(("pour", 20), ("spend", "trip", 9)), True)
            self.assertEqual([trip.reached, plan.levels, plan.lost], [True, (3, 0), 13])

    def test_a_reached_goal_remains_reached(self):
        for kind in GOALS:
            trip = kind("trip", 9, 9)
            trip.take(3)
            self.assertIs(Plan(trip).attempt(("spend", "trip", 2), ("spend", "trip", 5)), False)
            self.assertEqual([trip.reached, trip.level, trip.free()], [True, 6, 6])

    def test_no_deeds(self):
        others = (
            (), ("pour",), ("spend",), ("pour", 1, 1), ("pour", "food", 1), ("spend", "food"), ("spend", 1),
            ("spend", "food", 1, 1), ("Pour", 1), ("put", 1), ("take", "food", 1), ("spent", "food", 1), ("", 1),
            (None, 1), (True, 1), (["pour"], 1), (("pour",), 1), (("spend",), "food", 1), ("pour ", 1), (0, 0),
            (0, 0, 0), ["pour", 1], ["spend", "food", 1], [("pour", 1)], (("pour", 1),), (("pour", 1), ("pour", 1)),
            "pour", "po", {"pour": 1}, Envelope("pour", 1), (1, "pour"), ("food", "spend", 1), ("x" * 200, 1),
        )
        for value in others + NOT_INTEGERS + FAR_OUT:
            with self.subTest(value=value):
                self.assert_undone(value)
                self.assert_undone(("pour", 200), ("spend", "trip", 1), value)
                self.assert_undone(value, ("pour", 200))

    def test_many_deeds(self):
        plan = Plan.read("rent:50, food:30")
        deeds = [("pour", 1), ("spend", "rent", 1)] * 50
        self.assertIs(plan.attempt(*deeds), True)
        self.assertEqual([plan.levels, plan.lost], [(0, 0), 0])
        self.assertIs(plan.attempt(*deeds, ("pour", 5), ("spend", "rent", 6)), False)
        self.assertEqual([plan.levels, plan.lost], [(0, 0), 0])

    def test_an_envelope_called_self(self):
        plan = Plan.read("self:50")
        self.assertIs(plan.attempt(("pour", 9), ("spend", "self", 4)), True)
        self.assertEqual(plan.levels, (5,))


if __name__ == "__main__":
    unittest.main()
