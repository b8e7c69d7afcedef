"""Plans: envelopes in a row, which are filled in order."""

from fillorder.checks import check_amount, in_range
from fillorder.envelopes import Envelope
from fillorder.errors import (
    FillError, InvalidDeed, InvalidEnvelopes, InvalidPlace, InvalidText, UnknownEnvelope,
)


class Plan:
    """Envelopes with different names, in order, and what was lost because it did not fit."""

    MOST = 6

    def __init__(self, *envelopes):
        if not 1 <= len(envelopes) <= Plan.MOST:
            raise InvalidEnvelopes(f"a plan has 1 to {Plan.MOST} envelopes")
        if not all([isinstance(item, Envelope) for item in envelopes]):
            raise InvalidEnvelopes("a plan has envelopes only")
        if len({item.name for item in envelopes}) < len(envelopes):
            raise InvalidEnvelopes("the envelopes of a plan have different names")
        self.row = list(envelopes)
        self.gone = 0

    def __eq__(self, other):
        return isinstance(other, Plan) and self.row == other.row and self.gone == other.gone

    def __len__(self):
        return len(self.row)

    @classmethod
    def read(cls, text):
        """Return a new plan of plain envelopes, whose texts are joined by a comma and a space."""
        if not isinstance(text, str):
            raise InvalidText("a text is a string")
        found = [Envelope.read(part) for part in text.split(", ")]
        try:
            return cls(*found)
        except InvalidEnvelopes:
            raise InvalidText("too many envelopes, or two with the same name") from None

    @property
    def names(self):
        """The names, in order."""
        return tuple([item.name for item in self.row])

    @property
    def levels(self):
        """The levels, in order."""
        return tuple([item.level for item in self.row])

    @property
    def total(self):
        """The money in all envelopes."""
        return sum([item.level for item in self.row])

    @property
    def room(self):
        """What still fits into all envelopes."""
        return sum([item.room for item in self.row])

    @property
    def lost(self):
        """All that was lost so far."""
        return self.gone

    def envelope(self, name):
        """Return the envelope with this name."""
        for item in self.row:
            if item.name == name:
                return item
        raise UnknownEnvelope("the plan has no envelope of this name")

    def pour(self, *amounts):
        """Pour the amounts, one after another, and return what is lost."""
        for amount in amounts:
            check_amount(amount)
        lost = 0
        for amount in amounts:
            lost += self.pour_one(amount)
        self.gone += lost
        return lost

    def pour_one(self, amount):
        """Fill the envelopes in order, and return what is left over."""
        left = amount
        for item in self.row:
            left = item.put(left)
        return left

    # The plan is not called self here, because an envelope, and so a keyword, may have that name.
    def spend(this_plan, **amounts):
        """Take from each envelope that a keyword names the amount given, and return the sum."""
        for name in sorted(amounts):
            this_plan.envelope(name).check_take(amounts[name])
        for name in sorted(amounts):
            this_plan.envelope(name).take(amounts[name])
        return sum(amounts.values())

    def flow(self, amount):
        """Yield for each envelope its name and what a pour of the amount would put into it."""
        check_amount(amount)
        # All pairs belong to one pour, even if the caller changes the plan between two of them.
        pairs = []
        left = amount
        for item in self.row:
            added = min(left, item.room)
            pairs.append((item.name, added))
            left -= added
        yield from pairs

    def move(self, name, place):
        """Move the envelope with this name to the index place; the others keep their order."""
        moved = self.envelope(name)
        if not in_range(place, 0, len(self.row) - 1):
            raise InvalidPlace(f"a place is an integer from 0 to {len(self.row) - 1}")
        others = [item for item in self.row if item.name != name]
        self.row = others[:place] + [moved] + others[place:]

    def attempt(self, *deeds):
        """Perform all deeds, or none if one of them is not possible, and tell whether they were possible."""
        lost = self.gone
        states = [item.saved() for item in self.row]
        try:
            for deed in deeds:
                self.perform(deed)
        except FillError:
            self.gone = lost
            for item, state in zip(self.row, states):
                item.restore(state)
            return False
        return True

    def perform(self, deed):
        """Perform one deed, ("pour", amount) or ("spend", name, amount)."""
        if not isinstance(deed, tuple):
            raise InvalidDeed("a deed is a tuple")
        if len(deed) == 2 and deed[0] == "pour":
            self.pour(deed[1])
        elif len(deed) == 3 and deed[0] == "spend":
            self.envelope(deed[1]).take(deed[2])
        else:
            raise InvalidDeed("a deed pours an amount, or spends one from an envelope")
