"""Points 20 to 24: run, prefix_effects, commute, same_results and least_starts."""

import inspect
import itertools
import unittest

from samples import LARGEST, LARGEST_AMOUNT, NAMES
from slow import SMALL_ROWS, Maker, all_steps, slow_levels, slow_run

from fillorder import rows
from fillorder.envelopes import Envelope
from fillorder.plans import Plan
from fillorder.rows import commute, least_starts, prefix_effects, run, same_results

SIX = (LARGEST,) * 6


def plan_run(caps, levels, script):
    """Perform the script on a plan of plain envelopes."""
    plan = Plan(*[Envelope(name, cap, level) for name, cap, level in zip(NAMES, caps, levels)])
    deeds = [step if step[0] == "pour" else ("spend", NAMES[step[1]], step[2]) for step in script]
    return (plan.levels, plan.lost) if plan.attempt(*deeds) else None


def slow_same(caps, first, second):
    """Compare two scripts from all levels."""
    pairs = [(slow_run(caps, levels, first), slow_run(caps, levels, second)) for levels in slow_levels(caps)]
    return all(one is None or other is None or one[0] == other[0] for one, other in pairs)


def small_cases(seed, many, most_steps):
    """Return small rows, each with some scripts."""
    maker = Maker(seed)
    return [(caps, maker.script(caps, most_steps)) for caps in SMALL_ROWS for _ in range(many)]


class TestInterface(unittest.TestCase):
    def test_arguments(self):
        listed = {
            "run": "(caps, levels, script)", "prefix_effects": "(caps, script)", "commute": "(caps, one, other)",
            "same_results": "(caps, first, second)", "least_starts": "(caps, script)",
        }
        for name, arguments in listed.items():
            with self.subTest(name=name):
                function = getattr(rows, name)
                self.assertEqual(str(inspect.signature(function)), arguments)
                self.assertEqual([function.__module__, function.__name__], ["fillorder.rows", name])


class TestRun(unittest.TestCase):
    def test_example_of_point_20(self):
        self.assertEqual(run((5, 9), (0, 0), (("pour", 7), ("spend", 1, 2), ("pour", 20))), ((5, 9), 11))
        self.assertIsNone(run((5, 9), (0, 0), (("spend", 0, 1),)))

    def test_no_step(self):
        for caps in SMALL_ROWS:
            for levels in slow_levels(caps):
                self.assertEqual(run(caps, levels, ()), (levels, 0))

    def test_amounts_of_0(self):
        for levels in slow_levels((2, 3)):
            self.assertEqual(run((2, 3), levels, (("pour", 0), ("spend", 0, 0), ("spend", 1, 0))), (levels, 0))

    def test_each_step_from_all_levels(self):
        for caps in SMALL_ROWS:
            for levels, step in itertools.product(slow_levels(caps), all_steps(caps)):
                self.assertEqual(run(caps, levels, (step,)), slow_run(caps, levels, (step,)), (caps, levels, step))

    def test_scripts_of_small_rows(self):
        for caps, script in small_cases(20, 30, 8):
            for levels in slow_levels(caps)[::3]:
                self.assertEqual(run(caps, levels, script), slow_run(caps, levels, script), (caps, levels, script))

    def test_refused_steps(self):
        scripts = (
            (("spend", 0, 3),), (("pour", 1), ("spend", 0, 4)), (("spend", 0, 2), ("spend", 0, 1)),
            (("spend", 1, 4), ("pour", 99)), (("pour", 99), ("spend", 1, 10)), (("spend", 0, LARGEST_AMOUNT),),
        )
        for script in scripts:
            with self.subTest(script=script):
                self.assertIsNone(run((5, 9), (2, 3), script))

    def test_at_the_caps_and_above(self):
        for beyond in (-1, 0, 1, 2):
            script = (("pour", 9 + beyond),)
            self.assertEqual(run((5, 9), (2, 3), script), ((5, 9 + min(0, beyond)), max(0, beyond)))
        self.assertEqual(run(SIX, SIX, (("pour", LARGEST_AMOUNT),)), (SIX, LARGEST_AMOUNT))
        self.assertEqual(run(SIX, (0,) * 6, (("pour", LARGEST_AMOUNT),)), (SIX, LARGEST_AMOUNT - 6 * LARGEST))
        self.assertEqual(run(SIX, (0,) * 6, (("pour", LARGEST),)), ((LARGEST, 0, 0, 0, 0, 0), 0))
        self.assertEqual(run(SIX, (0,) * 6, (("pour", LARGEST + 1),)), ((LARGEST, 1, 0, 0, 0, 0), 0))

    def test_large_rows_against_plans(self):
        maker = Maker(201)
        for many, largest in itertools.product(range(1, 7), (9, 1000, LARGEST)):
            for _ in range(20):
                caps = maker.caps(many, largest)
                levels = maker.levels(caps)
                for script in (maker.script(caps, 10), maker.possible_script(caps, levels, 40)):
                    self.assertEqual(run(caps, levels, script), plan_run(caps, levels, script))

    def test_more_than_40_steps(self):
        self.assertEqual(run((5, 9), (0, 0), (("pour", 1),) * 100), ((5, 9), 86))

    def test_kinds_of_values(self):
        result = run((5, 9), (1, 0), (("pour", 5),))
        self.assertEqual([type(result), type(result[0]), type(result[1])], [tuple, tuple, int])


class TestPrefixEffects(unittest.TestCase):
    def test_example_of_point_21(self):
        self.assertEqual(prefix_effects((5, 9), (("pour", 7), ("spend", 1, 2))), [(7, 5), (5, 12)])

    def test_no_step(self):
        self.assertEqual(prefix_effects((5, 9, 1), ()), [(0, 5), (0, 14), (0, 15)])
        self.assertEqual(prefix_effects(SIX, ()), [(0, LARGEST * many) for many in range(1, 7)])

    def test_one_step(self):
        self.assertEqual(prefix_effects((5, 9), (("pour", 0),)), [(0, 5), (0, 14)])
        self.assertEqual(prefix_effects((5, 9), (("pour", 10 ** 9),)), [(10 ** 9, 5), (10 ** 9, 14)])
        self.assertEqual(prefix_effects((5, 9), (("spend", 0, 2),)), [(-2, 3), (-2, 12)])
        self.assertEqual(prefix_effects((5, 9), (("spend", 1, 2),)), [(0, 5), (-2, 12)])

    def test_spending_that_is_never_possible(self):
        self.assertEqual(prefix_effects((5,), (("spend", 0, 7), ("pour", 1))), [(-6, -1)])

    def test_pour_behind_and_before_a_spending(self):
        self.assertEqual(prefix_effects((5,), (("pour", 3), ("spend", 0, 2))), [(1, 3)])
        self.assertEqual(prefix_effects((5,), (("spend", 0, 2), ("pour", 3))), [(1, 5)])

    def test_the_definition(self):
        maker = Maker(21)
        for many in range(1, 7):
            for _ in range(50):
                caps = maker.caps(many, LARGEST)
                script = maker.script(caps, 40)
                effects = prefix_effects(caps, script)
                self.assertEqual(len(effects), many)
                for k in range(1, many + 1):
                    p, q = 0, sum(caps[:k])
                    for step in script:
                        if step[0] == "pour":
                            p, q = p + step[1], min(q + step[1], sum(caps[:k]))
                        elif step[1] + 1 <= k:
                            p, q = p - step[2], q - step[2]
                    self.assertEqual(effects[k - 1], (p, q))

    def test_the_sums_after_run(self):
        for caps, script in small_cases(22, 30, 8):
            effects = prefix_effects(caps, script)
            for levels in slow_levels(caps):
                result = run(caps, levels, script)
                if result is not None:
                    for k, (p, q) in enumerate(effects, start=1):
                        self.assertEqual(sum(result[0][:k]), min(sum(levels[:k]) + p, q))

    def test_a_new_list(self):
        script = (("pour", 7), ("spend", 1, 2))
        first = prefix_effects((5, 9), script)
        first.append(None)
        self.assertEqual(prefix_effects((5, 9), script), [(7, 5), (5, 12)])
        self.assertEqual([type(first), type(first[0])], [list, tuple])


class TestCommute(unittest.TestCase):
    def test_example_of_point_22(self):
        self.assertIs(commute((5, 9), ("pour", 3), ("spend", 1, 2)), False)
        self.assertIs(commute((5, 9), ("spend", 0, 2), ("spend", 0, 3)), True)

    def test_against_all_levels(self):
        def orders(caps, levels, one, other):
            results = [slow_run(caps, levels, (one, other)), slow_run(caps, levels, (other, one))]
            return [None if result is None else result[0] for result in results]

        for caps in ((1,), (3,), (1, 1), (2, 3), (3, 1), (1, 2, 1), (1, 1, 1, 1)):
            for one, other in itertools.product(all_steps(caps), repeat=2):
                pairs = [orders(caps, levels, one, other) for levels in slow_levels(caps)]
                self.assertIs(commute(caps, one, other), all(a == b for a, b in pairs), (caps, one, other))

    def test_large_rows(self):
        for at in range(6):
            for amount in (1, LARGEST - 1, LARGEST):
                for pour in (1, LARGEST, LARGEST_AMOUNT):
                    self.assertIs(commute(SIX, ("pour", pour), ("spend", at, amount)), False)
                    self.assertIs(commute(SIX, ("spend", at, amount), ("pour", pour)), False)
            for one, other in ((("pour", 0), ("spend", at, 5)), (("pour", 5), ("spend", at, 0)),
                               (("pour", 5), ("spend", at, LARGEST + 1)), (("pour", 5), ("spend", at, LARGEST_AMOUNT))):
                self.assertIs(commute(SIX, one, other), True)
                self.assertIs(commute(SIX, other, one), True)
        self.assertIs(commute(SIX, ("pour", LARGEST_AMOUNT), ("pour", 1)), True)
        self.assertIs(commute(SIX, ("spend", 0, LARGEST), ("spend", 5, 1)), True)


class TestSameResults(unittest.TestCase):
    def test_example_of_point_23(self):
        self.assertIs(same_results((2, 3), (("pour", 1), ("pour", 1)), (("pour", 2),)), True)

    def test_against_all_levels(self):
        maker = Maker(23)
        found = {True: 0, False: 0}
        for caps in SMALL_ROWS:
            for _ in range(40):
                first, second = maker.script(caps, 4), maker.script(caps, 4)
                expected = slow_same(caps, first, second)
                self.assertIs(same_results(caps, first, second), expected, (caps, first, second))
                self.assertIs(same_results(caps, second, first), expected)
                found[expected] += 1
        self.assertGreater(min(found.values()), 20)

    def test_all_pairs_of_steps(self):
        for caps in ((2,), (1, 2), (1, 1, 1)):
            for one, other in itertools.product(all_steps(caps), repeat=2):
                expected = slow_same(caps, (one,), (other,))
                self.assertIs(same_results(caps, (one,), (other,)), expected, (caps, one, other))

    def test_another_loss_does_not_count(self):
        self.assertIs(same_results((2, 3), (("pour", 5),), (("pour", 99),)), True)
        self.assertIs(same_results((2, 3), (("pour", 4),), (("pour", 99),)), False)

    def test_never_both_possible(self):
        self.assertIs(same_results((2, 3), (("spend", 0, 3),), (("pour", 1),)), True)
        self.assertIs(same_results((2,), (("spend", 0, 3),), (("spend", 0, 3),)), True)

    def test_no_steps(self):
        self.assertIs(same_results((2, 3), (), ()), True)
        self.assertIs(same_results((2, 3), (), (("pour", 0),)), True)
        self.assertIs(same_results((2, 3), (), (("pour", 1),)), False)

    def test_largest_rows(self):
        for caps in ((999,), (30, 30), (9, 9, 9), (2, 2, 2, 2, 2, 2)):
            script = (("pour", 1), ("spend", 0, 1)) * 20
            self.assertIs(same_results(caps, script, ()), False)
            self.assertIs(same_results(caps, script + (("pour", 1),), (("pour", 1),)), True)
            self.assertIs(same_results(caps, (("pour", 1),) * 40, (("pour", 40),)), True)


class TestLeastStarts(unittest.TestCase):
    def test_example_of_point_24(self):
        self.assertEqual(least_starts((2, 3), (("pour", 1), ("spend", 1, 2))), [(0, 2), (2, 1)])

    def test_against_all_levels(self):
        several = 0
        for caps, script in small_cases(24, 40, 6):
            expected = []
            for levels in slow_levels(caps):
                less = [levels[:at] + (levels[at] - 1,) + levels[at + 1:] for at in range(len(caps)) if levels[at] > 0]
                if slow_run(caps, levels, script) is not None:
                    if all(slow_run(caps, lower, script) is None for lower in less):
                        expected.append(levels)
            self.assertEqual(least_starts(caps, script), expected, (caps, script))
            several += len(expected) > 1
        self.assertGreater(several, 20)

    def test_always_possible(self):
        for script in ((), (("pour", 5),), (("pour", 5), ("spend", 0, 2), ("spend", 1, 3)), (("spend", 0, 0),)):
            self.assertEqual(least_starts((2, 3), script), [(0, 0)])

    def test_never_possible(self):
        self.assertEqual(least_starts((2, 3), (("spend", 0, 3),)), [])
        self.assertEqual(least_starts((2, 3), (("pour", 99), ("spend", 0, 2), ("spend", 0, 1))), [])

    def test_largest_rows(self):
        self.assertEqual(least_starts((999,), (("pour", 1), ("spend", 0, 1)) * 19 + (("spend", 0, 500),)), [(500,)])
        self.assertEqual(least_starts((30, 30), (("pour", 3), ("spend", 1, 30))),
                         [(0, 30), (28, 29), (29, 28), (30, 27)])
        self.assertEqual(least_starts((2,) * 6, (("spend", 5, 2),)), [(0, 0, 0, 0, 0, 2)])

    def test_ascending(self):
        starts = least_starts((9, 9, 9), (("pour", 9), ("spend", 2, 5), ("spend", 1, 3)))
        self.assertGreater(len(starts), 5)
        self.assertEqual(starts, sorted(set(starts)))

    def test_a_new_list(self):
        script = (("pour", 1), ("spend", 1, 2))
        least_starts((2, 3), script).clear()
        self.assertEqual(least_starts((2, 3), script), [(0, 2), (2, 1)])


if __name__ == "__main__":
    unittest.main()
