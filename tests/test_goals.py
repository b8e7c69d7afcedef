"""Points 25 to 28: least_pour, largest_spending, fitting_amounts, fewest_steps and shortest_script."""

import inspect
import unittest

from samples import LARGEST, LARGEST_AMOUNT
from slow import SMALL_ROWS, Maker, distances, slow_levels, slow_run

from fillorder import goals
from fillorder.goals import fewest_steps, fitting_amounts, largest_spending, least_pour, shortest_script
from fillorder.rows import run

SIX = (LARGEST,) * 6


def large_rows(seed, count):
    """Return rows of one to six envelopes with large caps, and levels."""
    maker = Maker(seed)
    for many in range(1, 7):
        for _ in range(count):
            caps = maker.caps(many, LARGEST)
            yield maker, caps, maker.levels(caps)


def changed(script, index, amount):
    """Return the script with another amount in one step."""
    steps = list(script)
    steps[index] = steps[index][:-1] + (amount,)
    return tuple(steps)


class TestInterface(unittest.TestCase):
    def test_arguments(self):
        listed = {
            "least_pour": "(caps, levels, script)", "largest_spending": "(caps, levels, script, place)",
            "fitting_amounts": "(caps, levels, script, index, final)", "fewest_steps": "(caps, levels, target)",
            "shortest_script": "(caps, levels, target)",
        }
        for name, arguments in listed.items():
            with self.subTest(name=name):
                function = getattr(goals, name)
                self.assertEqual(str(inspect.signature(function)), arguments)
                self.assertEqual([function.__module__, function.__name__], ["fillorder.goals", name])


class TestLeastPour(unittest.TestCase):
    def test_example_of_point_25(self):
        self.assertEqual(least_pour((5, 9), (1, 0), (("spend", 1, 4),)), 8)

    def test_against_all_amounts(self):
        maker = Maker(25)
        found = {"none": 0, "zero": 0, "more": 0}
        for caps in SMALL_ROWS:
            for _ in range(60):
                levels, script = maker.levels(caps), maker.script(caps, 5)
                fits = [amount for amount in range(sum(caps) + 3)
                        if slow_run(caps, levels, (("pour", amount),) + script) is not None]
                expected = fits[0] if fits else None
                self.assertEqual(least_pour(caps, levels, script), expected, (caps, levels, script))
                found["none" if not fits else "more" if expected else "zero"] += 1
        self.assertGreater(min(found.values()), 50, found)

    def test_large_rows(self):
        found = 0
        for maker, caps, levels in large_rows(251, 40):
            script = maker.script(caps, 8)
            amount = least_pour(caps, levels, script)
            if amount is None:
                self.assertIsNone(run(caps, levels, (("pour", LARGEST_AMOUNT),) + script))
            else:
                self.assertIsNotNone(run(caps, levels, (("pour", amount),) + script))
                if amount > 0:
                    found += 1
                    self.assertIsNone(run(caps, levels, (("pour", amount - 1),) + script))
        self.assertGreater(found, 30)

    def test_edges(self):
        self.assertEqual(least_pour((5, 9), (1, 0), ()), 0)
        self.assertEqual(least_pour((5, 9), (1, 0), (("spend", 0, 0),)), 0)
        self.assertEqual(least_pour((5, 9), (1, 0), (("spend", 0, 1),)), 0)
        self.assertEqual(least_pour((5, 9), (1, 0), (("spend", 1, 9),)), 13)
        self.assertIsNone(least_pour((5, 9), (1, 0), (("spend", 1, 10),)))
        self.assertIsNone(least_pour((5, 9), (5, 9), (("spend", 0, 6),)))
        self.assertIsNone(least_pour((5, 9), (1, 0), (("spend", 0, 5), ("spend", 0, 1))))
        self.assertIsNone(least_pour((5, 9), (1, 0), (("spend", 0, LARGEST_AMOUNT),)))
        self.assertEqual(least_pour(SIX, (0,) * 6, (("spend", 5, LARGEST),)), 6 * LARGEST)
        self.assertEqual(least_pour(SIX, (0,) * 6, (("spend", 5, 1),)), 5 * LARGEST + 1)


class TestLargestSpending(unittest.TestCase):
    def test_example_of_point_26(self):
        self.assertEqual(largest_spending((5, 9), (5, 3), (("pour", 2), ("spend", 1, 4)), 0), 1)

    def test_against_all_amounts(self):
        maker = Maker(26)
        found = {"none": 0, "zero": 0, "more": 0}
        for caps in SMALL_ROWS:
            for _ in range(60):
                levels, script = maker.levels(caps), maker.script(caps, 4)
                for place in range(len(caps)):
                    fits = [amount for amount in range(caps[place] + 3)
                            if slow_run(caps, levels, (("spend", place, amount),) + script) is not None]
                    expected = fits[-1] if fits else None
                    self.assertEqual(largest_spending(caps, levels, script, place), expected, (caps, levels, script))
                    found["none" if not fits else "more" if expected else "zero"] += 1
        self.assertGreater(min(found.values()), 50, found)

    def test_large_rows(self):
        found = 0
        for maker, caps, levels in large_rows(261, 40):
            script = maker.possible_script(caps, levels, 8)
            for place in range(len(caps)):
                amount = largest_spending(caps, levels, script, place)
                self.assertIsNotNone(run(caps, levels, (("spend", place, amount),) + script))
                self.assertIsNone(run(caps, levels, (("spend", place, amount + 1),) + script))
                found += 0 < amount < levels[place]
        self.assertGreater(found, 30)

    def test_edges(self):
        self.assertEqual(largest_spending((5, 9), (5, 3), (), 0), 5)
        self.assertEqual(largest_spending((5, 9), (5, 3), (), 1), 3)
        self.assertEqual(largest_spending((5, 9), (0, 3), (), 0), 0)
        self.assertEqual(largest_spending((5, 9), (5, 3), (("spend", 0, 5),), 0), 0)
        self.assertEqual(largest_spending((5, 9), (5, 3), (("spend", 0, 5),), 1), 3)
        self.assertIsNone(largest_spending((5, 9), (5, 3), (("spend", 0, 6),), 0))
        self.assertIsNone(largest_spending((5, 9), (5, 3), (("spend", 0, 6),), 1))
        self.assertIsNone(largest_spending((5, 9), (0, 0), (("spend", 0, 1),), 0))
        self.assertEqual(largest_spending(SIX, SIX, (("spend", 5, 1),), 5), LARGEST - 1)
        self.assertEqual(largest_spending(SIX, SIX, (("pour", LARGEST_AMOUNT), ("spend", 5, LARGEST)), 5), LARGEST)


class TestFittingAmounts(unittest.TestCase):
    def test_example_of_point_27(self):
        self.assertEqual(fitting_amounts((5, 9), (1, 0), (("pour", 0),), 0, (5, 9)), (13, LARGEST_AMOUNT))
        self.assertEqual(fitting_amounts((5, 9), (1, 0), (("pour", 0),), 0, (5, 2)), (6, 6))

    def slow_amounts(self, caps, levels, script, index, final):
        """Try all amounts up to the sum of the caps; a larger one does the same."""
        most = sum(caps) + 1
        fits = []
        for amount in range(most + 1):
            result = slow_run(caps, levels, changed(script, index, amount))
            if result is not None and result[0] == final:
                fits.append(amount)
        if not fits:
            return None
        self.assertEqual(fits, list(range(fits[0], fits[-1] + 1)))
        return (fits[0], LARGEST_AMOUNT if fits[-1] == most else fits[-1])

    def test_against_all_amounts(self):
        maker = Maker(27)
        found = {"none": 0, "one": 0, "several": 0, "all above": 0}
        for caps in SMALL_ROWS:
            for _ in range(80):
                levels = maker.levels(caps)
                script = maker.possible_script(caps, levels, maker.number(1, 4))
                reached = slow_run(caps, levels, script)[0]
                for index in range(len(script)):
                    for final in (reached, maker.levels(caps)):
                        expected = self.slow_amounts(caps, levels, script, index, final)
                        given = (caps, levels, script, index, final)
                        self.assertEqual(fitting_amounts(*given), expected, given)
                        kind = "none" if expected is None else "one" if expected[0] == expected[1] else "several"
                        found["all above" if kind == "several" and expected[1] == LARGEST_AMOUNT else kind] += 1
        self.assertGreater(min(found.values()), 50, found)

    def test_all_finals_of_one_row(self):
        caps = (2, 3)
        scripts = (
            (("pour", 1),), (("spend", 1, 1),), (("pour", 2), ("spend", 0, 1), ("pour", 1)),
            (("spend", 0, 1), ("pour", 4), ("spend", 1, 3)), (("pour", 9), ("spend", 0, 2), ("spend", 0, 1)),
        )
        for script in scripts:
            for index in range(len(script)):
                for levels in slow_levels(caps):
                    for final in slow_levels(caps):
                        expected = self.slow_amounts(caps, levels, script, index, final)
                        self.assertEqual(fitting_amounts(caps, levels, script, index, final), expected)

    def test_large_rows(self):
        found = 0
        for maker, caps, levels in large_rows(271, 15):
            script = maker.possible_script(caps, levels, 6)
            final = run(caps, levels, script)[0]
            for index in range(len(script)):
                low, high = fitting_amounts(caps, levels, script, index, final)
                self.assertTrue(0 <= low <= script[index][-1] <= high <= LARGEST_AMOUNT)
                for amount in (low, (low + high) // 2, high):
                    self.assertEqual(run(caps, levels, changed(script, index, amount))[0], final)
                for amount in (low - 1, high + 1):
                    if 0 <= amount <= LARGEST_AMOUNT:
                        result = run(caps, levels, changed(script, index, amount))
                        self.assertTrue(result is None or result[0] != final)
                found += low < high < LARGEST_AMOUNT
        self.assertGreater(found, 10)

    def test_the_given_amount_is_ignored(self):
        for amount in (0, 1, 99, LARGEST_AMOUNT):
            script = (("pour", 2), ("spend", 0, amount), ("pour", 1))
            self.assertEqual(fitting_amounts((5, 9), (1, 0), script, 1, (2, 0)), (2, 2))
            script = (("pour", amount), ("spend", 0, 1))
            self.assertEqual(fitting_amounts((5, 9), (1, 0), script, 0, (4, 9)), (13, LARGEST_AMOUNT))

    def test_none(self):
        # No amount leads there.
        self.assertIsNone(fitting_amounts((5, 9), (1, 0), (("pour", 0),), 0, (0, 0)))
        self.assertIsNone(fitting_amounts((5, 9), (1, 0), (("pour", 0),), 0, (4, 1)))
        self.assertIsNone(fitting_amounts((5, 9), (1, 0), (("spend", 0, 0),), 0, (2, 0)))
        self.assertIsNone(fitting_amounts((5, 9), (1, 0), (("spend", 1, 0),), 0, (0, 0)))
        # A step before is refused, or one behind, whatever the amount is.
        self.assertIsNone(fitting_amounts((5, 9), (1, 0), (("spend", 0, 2), ("pour", 0)), 1, (1, 0)))
        self.assertIsNone(fitting_amounts((5, 9), (1, 0), (("spend", 0, 2), ("spend", 1, 0)), 1, (1, 0)))
        self.assertIsNone(fitting_amounts((5, 9), (1, 0), (("pour", 0), ("spend", 0, 6)), 0, (0, 0)))
        self.assertIsNone(fitting_amounts((5, 9), (1, 0), (("spend", 0, 0), ("spend", 1, 1)), 0, (0, 0)))

    def test_ends_of_the_range(self):
        self.assertEqual(fitting_amounts((5, 9), (5, 9), (("pour", 7),), 0, (5, 9)), (0, LARGEST_AMOUNT))
        self.assertEqual(fitting_amounts(SIX, (0,) * 6, (("pour", 7),), 0, SIX), (6 * LARGEST, LARGEST_AMOUNT))
        self.assertEqual(fitting_amounts((5, 9), (3, 9), (("spend", 0, 7), ("pour", 99)), 0, (5, 9)), (0, 3))
        self.assertEqual(fitting_amounts((5, 9), (0, 9), (("spend", 0, 7),), 0, (0, 9)), (0, 0))


class TestShortestScript(unittest.TestCase):
    def assert_leads(self, caps, levels, target, steps):
        """Check the number of steps, and that a script with so many leads to the target."""
        given = (caps, levels, target)
        self.assertEqual(fewest_steps(*given), steps, given)
        script = shortest_script(*given)
        self.assertEqual(len(script), steps, given)
        result = run(caps, levels, script)
        self.assertIsNotNone(result, given)
        self.assertEqual(result[0], target, given)
        self.assert_is_script(caps, script)

    def assert_is_script(self, caps, script):
        self.assertIs(type(script), tuple)
        for step in script:
            self.assertIs(type(step), tuple)
            self.assertIn((step[0], len(step)), (("pour", 2), ("spend", 3)))
            self.assertTrue(0 <= step[-1] <= LARGEST_AMOUNT)
            if step[0] == "spend":
                self.assertIn(step[1], range(len(caps)))

    def test_example_of_point_28(self):
        self.assertEqual(fewest_steps((5, 9), (1, 0), (2, 4)), 2)
        self.assertEqual(shortest_script((5, 9), (1, 0), (5, 2)), (("pour", 6),))

    def test_all_pairs_of_levels(self):
        for caps in SMALL_ROWS[:-1]:
            for levels in slow_levels(caps):
                found = distances(caps, levels)
                for target in slow_levels(caps):
                    self.assert_leads(caps, levels, target, found[target])

    def test_six_small_envelopes(self):
        caps = (1, 1, 1, 1, 1, 1)
        for levels in slow_levels(caps)[::7]:
            found = distances(caps, levels)
            for target in slow_levels(caps):
                self.assert_leads(caps, levels, target, found[target])

    def test_equal_levels(self):
        maker = Maker(28)
        for many in range(1, 7):
            caps = maker.caps(many, LARGEST)
            levels = maker.levels(caps)
            self.assertEqual([fewest_steps(caps, levels, levels), shortest_script(caps, levels, levels)], [0, ()])

    def test_six_envelopes_with_large_caps(self):
        some = tuple(range(1, 7))
        half = (LARGEST // 2,) * 6
        rows = (
            ((0,) * 6, SIX, 1), (SIX, (0,) * 6, 6), (half, (0,) * 6, 6), ((0,) * 6, half, 6), (half, SIX, 1),
            (SIX, half, 6), ((0,) * 6, some, 6), (some, half, 6), ((0,) * 6, (0, 0, 0, 0, 0, 1), 6),
            ((0,) * 6, (1, 0, 0, 0, 0, 0), 1), (SIX, (LARGEST,) * 5 + (0,), 1),
            ((0, 1, 1, 1, 1, 1), (1, 0, 0, 0, 0, 0), 6), ((LARGEST,) * 5 + (0,), (LARGEST,) * 5 + (7,), 1),
            ((0,) * 5 + (9,), (LARGEST,) * 4 + (3, 9), 1), ((0,) * 5 + (9,), (LARGEST,) * 4 + (3, 8), 2),
        )
        for levels, target, steps in rows:
            with self.subTest(levels=levels, target=target):
                self.assert_leads(SIX, levels, target, steps)

    def test_large_caps_against_the_same_pattern_in_a_small_row(self):
        # Only the order of the caps, the levels and the target within each envelope matters.
        found = {(2, 2, 2): {}, (2, 3): {}, (3, 2): {}}
        for small in found:
            found[small] = {levels: distances(small, levels) for levels in slow_levels(small)}
            for levels in slow_levels(small):
                for target in slow_levels(small):
                    caps = tuple(cap * 1000 for cap in small)
                    large = tuple(level * 1000 for level in levels)
                    aim = tuple(level * 1000 for level in target)
                    self.assert_leads(caps, large, aim, found[small][levels][target])


if __name__ == "__main__":
    unittest.main()
