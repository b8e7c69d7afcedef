"""Amounts and scripts that bring a row of plain envelopes to a goal."""

from fillorder.checks import LARGEST_AMOUNT
from fillorder.rows import run


def first_amount(high, holds):
    """Return the least number from 0 to high for which holds is true, or high + 1 if there is none.

    Above a number for which holds is true, it is true for all.
    """
    low = 0
    while low <= high:
        middle = (low + high) // 2
        if holds(middle):
            high = middle - 1
        else:
            low = middle + 1
    return low


def least_pour(caps, levels, script):
    """Return the least amount that makes the script possible if it is poured first, or None."""
    room = sum(caps) - sum(levels)
    # Money in an envelope never makes a script impossible, and more than the room is lost.
    amount = first_amount(room, lambda poured: run(caps, levels, (("pour", poured),) + script) is not None)
    return amount if amount <= room else None


def largest_spending(caps, levels, script, place):
    """Return the largest amount that can be spent first so that the script is possible, or None."""
    # The step itself is refused above the level, so the search needs to go no further.
    refused = first_amount(
        levels[place], lambda spent: run(caps, levels, (("spend", place, spent),) + script) is None)
    return refused - 1 if refused > 0 else None


def fitting_amounts(caps, levels, script, index, final):
    """Return the least and the largest amount of the step with which the script leads to the final levels, or None."""

    def enough(amount):
        return reaches(run(caps, levels, with_amount(script, index, amount)), final)

    def too_much(amount):
        return exceeds(run(caps, levels, with_amount(script, index, amount)), final)

    # With more money no level is smaller at the end, and the script stays possible.
    if script[index][0] == "pour":
        low = first_amount(LARGEST_AMOUNT, enough)
        high = first_amount(LARGEST_AMOUNT, too_much) - 1
    else:
        low = first_amount(LARGEST_AMOUNT, lambda amount: not too_much(amount))
        high = first_amount(LARGEST_AMOUNT, lambda amount: not enough(amount)) - 1
    return (low, high) if low <= high else None


def with_amount(script, index, amount):
    """Return the script with this amount in the step with the index."""
    step = script[index][:-1] + (amount,)
    return script[:index] + (step,) + script[index + 1:]


def reaches(result, final):
    """Tell whether a result of run has levels, and none below the final one."""
    return result is not None and all([level >= aim for level, aim in zip(result[0], final)])


def exceeds(result, final):
    """Tell whether a result of run has levels, and one above the final one."""
    return result is not None and any([level > aim for level, aim in zip(result[0], final)])


def fewest_steps(caps, levels, target):
    """Return the smallest number of steps that lead from the levels to the target."""
    return len(shortest_script(caps, levels, target))


def shortest_script(caps, levels, target):
    """Return a script with the fewest steps that leads from the levels to the target."""
    rising = [place for place in range(len(caps)) if target[place] > levels[place]]
    if not rising:
        return spendings(levels, target)
    # A pour into the last one that rises fills all before it. So one pour is needed, and afterwards one
    # spending from each of those that is not full in the target; those behind it need no pour.
    last = rising[-1]
    full = caps[:last] + (target[last],) + levels[last + 1:]
    return (("pour", sum(full) - sum(levels)),) + spendings(full, target)


def spendings(levels, target):
    """Return the script that spends all that is above the target."""
    return tuple([
        ("spend", place, levels[place] - target[place])
        for place in range(len(levels)) if levels[place] > target[place]
    ])
