"""Values and helpers that several tests use."""

from fillorder.envelopes import Envelope, Goal, GoalReserve, Reserve

LARGEST = 1000000
LARGEST_AMOUNT = 1000000000
FORTY_DIGITS = int("9" * 40)

CLASSES = (Envelope, Goal, Reserve, GoalReserve)
GOALS = (Goal, GoalReserve)
RESERVES = (Reserve, GoalReserve)


def nested(depth):
    """Return a list that is nested this many levels deep."""
    value = []
    for _ in range(depth - 1):
        value = [value]
    return value


# Neither integers nor strings.
NEITHER = (True, False, None, [], [5], ["food"], (), (5,), ("food",), [None] * 100, nested(10))
NOT_INTEGERS = NEITHER + ("", "5", "food", "x" * 200)
# Integers that are never a cap, a level, a floor or an amount.
FAR_OUT = (FORTY_DIGITS, -FORTY_DIGITS, -1)

NAMES = ("a", "z", "az", "food", "abcdefgh", "stuvwxyz", "mnopqrst", "ijklmnop")
NOT_NAMES = NEITHER + (
    "", "abcdefghi", "x" * 200, "Food", "FOOD", "fooD", "f ood", " food", "food ", "food\n", "food1", "1",
    "fo_od", "fo-od", "`", "{", "@", "f\u00e9e", "stra\u00dfe", "\u0430", "\u00aa", 0, 5, FORTY_DIGITS,
)


def state(envelope):
    """Return all that an envelope shows of itself."""
    shown = [envelope.name, envelope.cap, envelope.level, envelope.room, envelope.free(), envelope.text()]
    if isinstance(envelope, Goal):
        shown.append(envelope.reached)
    if isinstance(envelope, Reserve):
        shown.append(envelope.floor)
    return shown


def assert_refused(case, error, envelope, call, *values):
    """Check that the call raises exactly this error, and changes nothing."""
    before = state(envelope)
    with case.assertRaises(error) as caught:
        call(*values)
    case.assertIs(type(caught.exception), error)
    case.assertEqual(state(envelope), before)


def assert_no_envelope(case, error, kind, *values, **more):
    """Check that creating an envelope raises exactly this error."""
    with case.assertRaises(error) as caught:
        kind(*values, **more)
    case.assertIs(type(caught.exception), error)
