"""Point 7: text, read and is_name."""

import unittest

from samples import CLASSES, FORTY_DIGITS, GOALS, LARGEST, NAMES, NEITHER, NOT_NAMES, RESERVES, assert_raises

from fillorder.envelopes import Envelope, Goal, GoalReserve
from fillorder.errors import InvalidText

WRONG_TEXTS = (
    # The form.
    "", "food", "food:", ":", "/", ":/", "food:/", "food/50", "food:/50", "food:20/", ":50", ":20/50",
    "food:20/50/", "food:/20/50", "food:20//50", "food:10/20/50", "food::50", "food:20:50", "food:20:/50",
    "food:50:20/50", "food50", "50", "20/50", "food:20/50,", "food:20/50, rent:50", "food:20\\50", "food;20/50",
    "a" * 200, "food:" + "0" * 195, "food:" + "1" * 195, "food:1/" + "9" * 193, "food:" + "9" * 192 + "/1",
    # Leading zeros.
    "food:050", "food:00", "food:00/50", "food:01/50", "food:020/50", "food:20/050", "food:0/01", "food:0000005/9",
    # Numbers out of bounds.
    "food:0", "food:0/0", "food:51/50", "food:1/0", "food:1000001", "food:0/1000001", "food:1000001/1000001",
    "food:1000001/1000000", "food:10000000", f"food:{FORTY_DIGITS}", f"food:{FORTY_DIGITS}/{FORTY_DIGITS}",
    f"food:{FORTY_DIGITS}/50", "food:-1", "food:-1/50", "food:-0/50", "food:20/-50",
    # Characters that do not belong there.
    "food:+20/50", "food:20/+50", "food: 20/50", "food:20 /50", "food:20/ 50", "food:20/50 ", " food:20/50",
    "food :20/50", "food:20/50\n", "\nfood:20/50", "food:20\n/50", "food:2_0/50", "food:20/5_0", "food:2.0/50",
    "food:20/5e1", "food:0x2/50", "food:a/50", "food:20/b", "food:20/50a", "food:\u0662/50", "food:20/\u0665\u0660",
    "food:\u00b2/50", "food:20/\uff15\uff10", "food:20\u2215\u0035\u0030", "food\uff1a20/50", "food:20/50\u0000",
    # Names.
    "Food:20/50", "foodfoodf:20/50", "foodfoodf:50", "fo od:50", "food1:50", "f\u00e9e:50", "-:50", "FOOD:50",
)


class TestText(unittest.TestCase):
    def test_text(self):
        for kind in CLASSES:
            with self.subTest(kind=kind.__name__):
                self.assertEqual(kind("food", 50, 20).text(), "food:20/50")
                self.assertEqual(kind("food", 50).text(), "food:0/50")
                self.assertEqual(kind("abcdefgh", LARGEST, LARGEST).text(), "abcdefgh:1000000/1000000")

    def test_text_follows_the_changes(self):
        food = Envelope("food", 50, 20)
        food.put(15)
        food.cap = 36
        self.assertEqual(food.text(), "food:35/36")
        food.take(35)
        self.assertEqual(food.text(), "food:0/36")


class TestRead(unittest.TestCase):
    def test_example_of_point_7(self):
        self.assertEqual(
            [Envelope.read("food:50").text(), Goal.read("trip:90/90").reached], ["food:0/50", True])

    def test_both_forms(self):
        rows = (
            ("food:50", "food", 50, 0), ("food:0/50", "food", 50, 0), ("food:20/50", "food", 50, 20),
            ("food:50/50", "food", 50, 50), ("a:1", "a", 1, 0), ("z:0/1", "z", 1, 0), ("a:1/1", "a", 1, 1),
            ("abcdefgh:1000000", "abcdefgh", LARGEST, 0), ("food:1000000/1000000", "food", LARGEST, LARGEST),
            ("food:0/1000000", "food", LARGEST, 0), ("food:10/100", "food", 100, 10), ("food:9/10", "food", 10, 9),
            ("food:123456/789012", "food", 789012, 123456),
        )
        for kind in CLASSES:
            for text, name, cap, level in rows:
                with self.subTest(kind=kind.__name__, text=text):
                    food = kind.read(text)
                    self.assertIs(type(food), kind)
                    self.assertEqual([food.name, food.cap, food.level], [name, cap, level])
                    self.assertEqual(food, kind(name, cap, level))

    def test_reached_and_floor(self):
        for kind in GOALS:
            self.assertIs(kind.read("trip:90/90").reached, True)
            self.assertIs(kind.read("trip:89/90").reached, False)
            self.assertIs(kind.read("trip:90").reached, False)
        for kind in RESERVES:
            self.assertEqual(kind.read("rent:20/50").floor, 0)

    def test_called_on_an_envelope(self):
        self.assertIs(type(Goal("trip", 90).read("food:50")), Goal)

    def test_new_each_time(self):
        first, second = Envelope.read("food:50"), Envelope.read("food:50")
        first.put(5)
        self.assertEqual([first.level, second.level], [5, 0])

    def test_text_read_back(self):
        for kind in CLASSES:
            for name in NAMES:
                for cap, level in ((1, 0), (1, 1), (50, 20), (100, 10), (LARGEST, 0), (LARGEST, LARGEST)):
                    with self.subTest(kind=kind.__name__, name=name, cap=cap, level=level):
                        food = kind(name, cap, level)
                        self.assertEqual(kind.read(food.text()), food)
                        self.assertEqual(kind.read(food.text()).text(), food.text())

    def test_wrong_texts(self):
        for kind in CLASSES:
            for text in WRONG_TEXTS:
                with self.subTest(kind=kind.__name__, text=text):
                    assert_raises(self, InvalidText, kind.read, text)

    def test_very_long_numbers(self):
        for kind in CLASSES:
            assert_raises(self, InvalidText, kind.read, "food:" + "1" * 5000)

    def test_other_values(self):
        others = NEITHER + (0, 50, FORTY_DIGITS, ["food:50"], ("food:50",), ["food", 50], [["food:50"]])
        for kind in CLASSES:
            for value in others:
                with self.subTest(kind=kind.__name__, value=value):
                    assert_raises(self, InvalidText, kind.read, value)


class TestIsName(unittest.TestCase):
    def test_names(self):
        for name in NAMES:
            with self.subTest(name=name):
                self.assertIs(Envelope.is_name(name), True)

    def test_every_letter(self):
        for code in range(0x250):
            letter = chr(code)
            with self.subTest(letter=letter):
                self.assertIs(Envelope.is_name(letter), "a" <= letter <= "z")
                self.assertIs(Envelope.is_name("x" + letter), "a" <= letter <= "z")

    def test_lengths(self):
        for length in range(12):
            self.assertIs(Envelope.is_name("x" * length), 1 <= length <= 8)

    def test_not_names(self):
        for value in NOT_NAMES:
            with self.subTest(value=value):
                self.assertIs(Envelope.is_name(value), False)

    def test_called_on_envelopes_and_classes(self):
        for kind in CLASSES:
            for caller in (kind, kind("food", 50, 20)):
                with self.subTest(kind=kind.__name__):
                    self.assertIs(caller.is_name("rent"), True)
                    self.assertIs(caller.is_name("Rent"), False)
                    self.assertIs(caller.is_name(None), False)

    def test_changes_nothing(self):
        food = GoalReserve("food", 50, 20, floor=5)
        food.is_name("rent")
        self.assertEqual(food, GoalReserve("food", 50, 20, floor=5))


if __name__ == "__main__":
    unittest.main()
