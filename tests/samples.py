"""Values and helpers that several tests use."""

from fillorder.envelopes import Envelope, Goal, GoalReserve, Reserve
from fillorder.plans import Plan

LARGEST = 1000000
LARGEST_AMOUNT = 1000000000
FORTY_DIGITS = int("9" * 40)

CLASSES = (Envelope, Goal, Reserve, GoalReserve)
GOALS = (Goal, GoalReserve)
RESERVES = (Reserve, GoalReserve)


def nested(depth):
    """Return a list that is nested this many levels deep."""
    value = []
    for _ in range(depth - 1):
        value = [value]
    return value


# Neither integers nor strings.
NEITHER = (True, False, None, [], [5], ["food"], (), (5,), ("food",), [None] * 100, nested(10))
NOT_INTEGERS = NEITHER + ("", "5", "food", "x" * 200)
# Integers that are never a cap, a level, a floor or an amount.
FAR_OUT = (FORTY_DIGITS, -FORTY_DIGITS, -1)
NOT_AMOUNTS = NOT_INTEGERS + FAR_OUT + (LARGEST_AMOUNT + 1,)

NAMES = ("a", "z", "az", "food", "abcdefgh", "stuvwxyz", "mnopqrst", "ijklmnop")
NOT_NAMES = NEITHER + (
    "", "abcdefghi", "x" * 200, "Food", "FOOD", "fooD", "f ood", " food", "food ", "food\n", "food1", "1",
    "fo_od", "fo-od", "`", "{", "@", "f\u00e9e", "stra\u00dfe", "\u0430", "\u00aa", 0, 5, FORTY_DIGITS,
)


def state(thing):
    """Return all that an envelope or a plan shows of itself."""
    return plan_state(thing) if isinstance(thing, Plan) else envelope_state(thing)


def plan_state(plan):
    envelopes = [envelope_state(plan.envelope(name)) for name in plan.names]
    return [len(plan), plan.names, plan.levels, plan.total, plan.room, plan.lost, envelopes]


def envelope_state(envelope):
    shown = [envelope.name, envelope.cap, envelope.level, envelope.room, envelope.free(), envelope.text()]
    if isinstance(envelope, Goal):
        shown.append(envelope.reached)
    if isinstance(envelope, Reserve):
        shown.append(envelope.floor)
    return shown


def assert_raises(case, error, call, *values, **more):
    """Check that the call raises exactly this error."""
    with case.assertRaises(error) as caught:
        call(*values, **more)
    case.assertIs(type(caught.exception), error)


def assert_refused(case, error, thing, call, *values, **more):
    """Check that the call raises exactly this error, and changes nothing."""
    before = state(thing)
    assert_raises(case, error, call, *values, **more)
    case.assertEqual(state(thing), before)


def assert_equal_both_ways(case, one, other):
    case.assertIs(one == other, True)
    case.assertIs(other == one, True)
    case.assertIs(one != other, False)
    case.assertIs(other != one, False)


def assert_different_both_ways(case, one, other):
    case.assertIs(one == other, False)
    case.assertIs(other == one, False)
    case.assertIs(one != other, True)
    case.assertIs(other != one, True)
