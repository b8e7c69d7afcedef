"""Points 1 to 3 over the whole program: what the package has, its conventions, and what it guarantees of rows."""

import pathlib
import unittest

from samples import LARGEST, LARGEST_AMOUNT, NAMES
from slow import Maker, distances, slow_levels

from fillorder.envelopes import Envelope
from fillorder.goals import fewest_steps, fitting_amounts, largest_spending, least_pour, shortest_script
from fillorder.plans import Plan
from fillorder.rows import commute, least_starts, prefix_effects, run, same_results

PACKAGE = pathlib.Path(__file__).resolve().parent.parent / "fillorder"


def possible_cases(seed, count):
    """Return rows of one to six envelopes, levels, and scripts that are possible from them."""
    maker = Maker(seed)
    for many in range(1, 7):
        for largest in (3, 20, LARGEST):
            for _ in range(count):
                caps = maker.caps(many, largest)
                levels = maker.levels(caps)
                yield caps, levels, maker.possible_script(caps, levels, maker.number(0, 12))


def swapped(row, at):
    """Return the row with the items at this index and the next one exchanged."""
    return row[:at] + (row[at + 1], row[at]) + row[at + 2:]


def merged(row, at):
    """Return the row with the sum of the items at this index and the next one in their place."""
    return row[:at] + (row[at] + row[at + 1],) + row[at + 2:]


def with_places(script, places):
    """Return the script with other places."""
    return tuple(step if step[0] == "pour" else ("spend", places[step[1]], step[2]) for step in script)


class TestPackage(unittest.TestCase):
    def test_modules(self):
        names = {path.stem for path in PACKAGE.glob("*.py")}
        self.assertLessEqual({"__init__", "errors", "envelopes", "plans", "rows", "goals"}, names)


class TestConventions(unittest.TestCase):
    def test_results_do_not_depend_on_earlier_calls(self):
        caps, levels, script = (2, 3), (1, 1), (("pour", 1), ("spend", 1, 1))
        calls = (
            lambda: run(caps, levels, script), lambda: prefix_effects(caps, script),
            lambda: commute(caps, script[0], script[1]), lambda: same_results(caps, script, ()),
            lambda: least_starts(caps, script), lambda: least_pour(caps, levels, script),
            lambda: largest_spending(caps, levels, script, 0), lambda: fitting_amounts(caps, levels, script, 0, (2, 0)),
            lambda: fewest_steps(caps, levels, (0, 3)), lambda: shortest_script(caps, levels, (0, 3)),
        )
        first = [call() for call in calls]
        for call, result in zip(reversed(calls), reversed(first)):
            self.assertEqual(call(), result)
        self.assertEqual([caps, levels, script], [(2, 3), (1, 1), (("pour", 1), ("spend", 1, 1))])

    def test_arguments_are_not_modified(self):
        row = [Envelope("food", 50), Envelope("rent", 30)]
        plan = Plan(*row)
        plan.move("rent", 0)
        self.assertEqual([item.name for item in row], ["food", "rent"])
        amounts = {"rent": 0, "food": 0}
        plan.spend(**amounts)
        self.assertEqual(list(amounts.items()), [("rent", 0), ("food", 0)])
        deeds = [("pour", 5), ["pour", 5]]
        self.assertIs(plan.attempt(*deeds), False)
        self.assertEqual(deeds, [("pour", 5), ["pour", 5]])

    def test_returned_tuples_stay_as_they_are(self):
        plan = Plan.read("rent:50, food:30")
        names, levels = plan.names, plan.levels
        plan.pour(60)
        plan.move("food", 0)
        self.assertEqual([names, levels], [("rent", "food"), (0, 0)])


class TestGuarantees(unittest.TestCase):
    def test_sums(self):
        for caps, levels, script in possible_cases(31, 20):
            after = run(caps, levels, script)[0]
            for k, (p, q) in enumerate(prefix_effects(caps, script), start=1):
                self.assertEqual(sum(after[:k]), min(sum(levels[:k]) + p, q), (caps, levels, script))

    def test_a_sum_does_not_depend_on_the_distribution(self):
        for caps, script in (((2, 3), (("pour", 2), ("spend", 1, 1))), ((2, 1, 2), (("spend", 2, 1), ("pour", 3))),
                             ((1,) * 6, (("pour", 2), ("spend", 0, 1), ("spend", 3, 1), ("pour", 1)))):
            found = {}
            for levels in slow_levels(caps):
                result = run(caps, levels, script)
                if result is not None:
                    for k in range(1, len(caps) + 1):
                        found.setdefault((k, sum(levels[:k])), set()).add(sum(result[0][:k]))
            self.assertGreater(len(found), 1)
            self.assertEqual({len(sums) for sums in found.values()}, {1})

    def test_neighbours_in_another_order(self):
        found = 0
        for caps, levels, script in possible_cases(32, 30):
            levels_after, lost = run(caps, levels, script)
            for at in range(len(caps) - 1):
                places = swapped(tuple(range(len(caps))), at)
                other = run(swapped(caps, at), swapped(levels, at), with_places(script, places))
                if other is not None:
                    self.assertEqual(levels_after[:at] + levels_after[at + 2:], other[0][:at] + other[0][at + 2:])
                    self.assertEqual(lost, other[1])
                    found += other[0] != swapped(levels_after, at)
        self.assertGreater(found, 30)

    def test_neighbours_merged(self):
        for caps, levels, script in possible_cases(33, 30):
            levels_after, lost = run(caps, levels, script)
            for at in range(len(caps) - 1):
                places = [place if place <= at else place - 1 for place in range(len(caps))]
                other = run(merged(caps, at), merged(levels, at), with_places(script, places))
                self.assertEqual(other, (merged(levels_after, at), lost))

    def test_one_unit_more(self):
        found = [0, 0]
        for caps, levels, script in possible_cases(34, 20):
            before, lost = run(caps, levels, script)
            for at in range(len(caps)):
                if levels[at] < caps[at]:
                    after, other_lost = run(caps, levels[:at] + (levels[at] + 1,) + levels[at + 1:], script)
                    gains = [high - low for low, high in zip(before, after)] + [other_lost - lost]
                    self.assertEqual(sorted(gains), [0] * len(caps) + [1])
                    found[gains[-1]] += 1
        self.assertGreater(min(found), 50)

    def test_possible_from_all_levels_that_are_nowhere_smaller(self):
        maker = Maker(35)
        for caps, levels, script in possible_cases(35, 10):
            more = tuple(maker.number(level, cap) for level, cap in zip(levels, caps))
            self.assertIsNotNone(run(caps, more, script))

    def test_what_is_lost(self):
        for caps, levels, script in possible_cases(36, 20):
            after, lost = run(caps, levels, script)
            poured = sum(step[1] for step in script if step[0] == "pour")
            spent = sum(step[2] for step in script if step[0] == "spend")
            self.assertEqual(lost, poured - spent - (sum(after) - sum(levels)))

    def test_what_a_plan_loses(self):
        for caps, levels, script in possible_cases(37, 5):
            plan = Plan(*[Envelope(name, cap, level) for name, cap, level in zip(NAMES, caps, levels)])
            balance = 0
            for step in script:
                if step[0] == "pour":
                    plan.pour(step[1])
                    balance += step[1]
                else:
                    balance -= plan.spend(**{NAMES[step[1]]: step[2]})
            self.assertEqual((plan.levels, plan.lost), run(caps, levels, script))
            self.assertEqual(plan.lost, balance - (plan.total - sum(levels)))

    def test_amounts_are_a_range(self):
        for caps, levels, script in possible_cases(38, 3):
            final = run(caps, levels, script)[0]
            for index, step in enumerate(script):
                low, high = fitting_amounts(caps, levels, script, index, final)
                self.assertTrue(0 <= low <= step[-1] <= high <= LARGEST_AMOUNT)
                for part in range(9):
                    other = script[:index] + (step[:-1] + (low + (high - low) * part // 8,),) + script[index + 1:]
                    self.assertEqual(run(caps, levels, other)[0], final)

    def test_no_script_with_fewer_steps(self):
        for caps in ((3,), (2, 1), (1, 2, 1), (1, 1, 1, 1), (1, 1, 1, 1, 1), (1, 1, 1, 1, 1, 1)):
            for levels in slow_levels(caps)[::5]:
                found = distances(caps, levels)
                for target in slow_levels(caps):
                    self.assertEqual(len(shortest_script(caps, levels, target)), found[target])


if __name__ == "__main__":
    unittest.main()
