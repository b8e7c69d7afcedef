"""The kinds of envelopes."""

from fillorder.checks import check_amount, in_range, is_number
from fillorder.errors import FillError, InvalidCap, InvalidFloor, InvalidLevel, InvalidName, InvalidText, NotEnough

LETTERS = "abcdefghijklmnopqrstuvwxyz"
LONGEST_NAME = 8


class Envelope:
    """An envelope: a name, a cap, and a level that is at most the cap."""

    LARGEST = 1000000

    def __init__(self, name, cap, level=0):
        if not Envelope.is_name(name):
            raise InvalidName(f"a name is 1 to {LONGEST_NAME} letters a to z")
        if not in_range(cap, 1, Envelope.LARGEST):
            raise InvalidCap(f"a cap is an integer from 1 to {Envelope.LARGEST}")
        if not in_range(level, 0, cap):
            raise InvalidLevel(f"the level is an integer from 0 to {cap}")
        self.label = name
        self.most = cap
        self.held = level

    def __eq__(self, other):
        return isinstance(other, Envelope) and self.parts == other.parts

    @staticmethod
    def is_name(value):
        """Tell whether the value is a name."""
        if not isinstance(value, str) or not 1 <= len(value) <= LONGEST_NAME:
            return False
        return all([letter in LETTERS for letter in value])

    @classmethod
    def read(cls, text):
        """Return a new envelope of this class with the text NAME:LEVEL/CAP or NAME:CAP."""
        if not isinstance(text, str):
            raise InvalidText("a text is a string")
        name, colon, numbers = text.partition(":")
        level, slash, cap = numbers.rpartition("/")
        if slash == "":
            level = "0"
        if not is_number(level) or not is_number(cap):
            raise InvalidText("a text is NAME:LEVEL/CAP or NAME:CAP")
        try:
            return cls(name, int(cap), int(level))
        except FillError:
            raise InvalidText("the name or a number is out of bounds") from None

    @property
    def parts(self):
        """All that equal envelopes have in common; the first item stands for the class."""
        return ("Envelope", self.name, self.cap, self.level)

    @property
    def name(self):
        """The name."""
        return self.label

    @property
    def cap(self):
        """The largest possible level."""
        return self.most

    @cap.setter
    def cap(self, value):
        self.set_cap(value)

    @property
    def level(self):
        """The money in the envelope."""
        return self.held

    @property
    def room(self):
        """What still fits."""
        return self.cap - self.level

    def set_cap(self, value):
        """Change the cap, which is not less than the level."""
        if not in_range(value, 1, Envelope.LARGEST) or value < self.level:
            raise InvalidCap(f"a cap is an integer from 1 to {Envelope.LARGEST}, and not less than the level")
        self.most = value

    def put(self, amount):
        """Add as much of the amount as fits, and return what is left over."""
        check_amount(amount)
        added = min(amount, self.room)
        self.held += added
        return amount - added

    def free(self):
        """Return the largest amount that can be taken."""
        return self.level

    def take(self, amount):
        """Subtract the amount, which is at most free()."""
        self.check_take(amount)
        self.held -= amount

    def check_take(self, amount):
        """Raise the errors of take, and take nothing."""
        check_amount(amount)
        limit = self.free()
        if amount > limit:
            raise NotEnough(f"only {limit} can be taken")

    def text(self):
        """Return the text NAME:LEVEL/CAP."""
        return f"{self.name}:{self.level}/{self.cap}"

    def saved(self):
        """Return all that put and take may change, for restore()."""
        return (self.held,)

    def restore(self, state):
        """Bring back what saved() has returned."""
        self.held = state[0]


class Goal(Envelope):
    """An envelope from which nothing can be taken before it was full once."""

    def __init__(self, name, cap, level=0):
        super().__init__(name, cap, level)
        self.done = level == cap

    @property
    def parts(self):
        """All that equal goals have in common; the first item stands for the class."""
        return ("Goal", self.name, self.cap, self.level, self.reached)

    @property
    def reached(self):
        """Whether it was full at its creation or after a put."""
        return self.done

    def put(self, amount):
        """Add as much of the amount as fits, and return what is left over."""
        left = super().put(amount)
        if self.room == 0:
            self.done = True
        return left

    def free(self):
        """Return the largest amount that can be taken."""
        return self.level if self.reached else 0

    def saved(self):
        """Return all that put and take may change, for restore()."""
        return (self.held, self.done)

    def restore(self, state):
        """Bring back what saved() has returned."""
        self.held = state[0]
        self.done = state[1]


class Reserve(Envelope):
    """An envelope in which a floor stays."""

    def __init__(self, name, cap, level=0, *, floor=0):
        super().__init__(name, cap, level)
        self.set_floor(floor)

    @property
    def parts(self):
        """All that equal reserves have in common; the first item stands for the class."""
        return ("Reserve", self.name, self.cap, self.level, self.floor)

    @property
    def floor(self):
        """What stays in the envelope."""
        return self.kept

    @floor.setter
    def floor(self, value):
        self.set_floor(value)

    def set_floor(self, value):
        """Change the floor, which is not more than the present cap."""
        if not in_range(value, 0, self.cap):
            raise InvalidFloor(f"the floor is an integer from 0 to {self.cap}")
        self.kept = value

    def free(self):
        """Return the largest amount that can be taken."""
        # The level may be below the floor.
        return max(0, self.level - self.floor)


# Reserve stands first, because super() must find its free() here, and because
# its creation takes the floor and then goes on to that of Goal.
class GoalReserve(Reserve, Goal):
    """A goal in which a floor stays, also when it is reached."""

    def __init__(self, name, cap, level=0, *, floor=0):
        super().__init__(name, cap, level, floor=floor)

    @property
    def parts(self):
        """All that equal goals with a floor have in common; the first item stands for the class."""
        return ("GoalReserve", self.name, self.cap, self.level, self.reached, self.floor)

    def free(self):
        """Return the largest amount that can be taken."""
        return super().free() if self.reached else 0
