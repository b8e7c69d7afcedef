"""Slow and plain ways to compute what the program computes for rows, and rows and scripts to compare them on."""

import itertools
import random

SMALL_ROWS = (
    (1,), (2,), (5,), (1, 1), (2, 3), (3, 1), (1, 4), (1, 2, 1), (2, 1, 2), (3, 2, 1), (1, 1, 1, 1), (2, 1, 1, 2),
    (1, 2, 1, 1, 1), (1, 1, 1, 1, 1, 1),
)


def slow_run(caps, levels, script):
    """Move the money unit by unit; amounts are small."""
    now, lost = list(levels), 0
    for step in script:
        if step[0] == "pour":
            for _ in range(step[1]):
                open_places = [at for at in range(len(caps)) if now[at] < caps[at]]
                if open_places:
                    now[open_places[0]] += 1
                else:
                    lost += 1
        else:
            now[step[1]] -= step[2]
            if now[step[1]] < 0:
                return None
    return tuple(now), lost


def slow_levels(caps):
    """Return all levels of a row, in ascending order."""
    return list(itertools.product(*[range(cap + 1) for cap in caps]))


def all_steps(caps):
    """Return all steps that can make a difference in a small row, and some that are always refused."""
    pours = [("pour", amount) for amount in range(sum(caps) + 2)]
    return pours + [("spend", at, amount) for at in range(len(caps)) for amount in range(caps[at] + 2)]


def distances(caps, levels):
    """Return for each levels the fewest steps that lead to them, by a search in breadth."""
    found, edge = {levels: 0}, [levels]
    while edge:
        reached = [slow_run(caps, now, (step,)) for now in edge for step in all_steps(caps)]
        steps = found[edge[0]] + 1
        edge = sorted({result[0] for result in reached if result is not None} - set(found))
        found.update({now: steps for now in edge})
    return found


class Maker:
    """Makes rows, levels and scripts, always the same ones for the same seed."""

    def __init__(self, seed):
        self.numbers = random.Random(seed)

    def number(self, low, high):
        """Return a number, more often than by chance one near the ends."""
        if self.numbers.random() < 0.3:
            return self.numbers.choice((low, high, min(low + 1, high), max(high - 1, low)))
        return self.numbers.randint(low, high)

    def caps(self, many, largest):
        return tuple(self.number(1, largest) for _ in range(many))

    def levels(self, caps):
        return tuple(self.number(0, cap) for cap in caps)

    def step(self, caps):
        """Return a step that is neither certain to be refused nor to lose all."""
        if self.numbers.random() < 0.4:
            return ("pour", self.number(0, self.numbers.choice((1, max(caps), sum(caps) + 1))))
        at = self.numbers.randrange(len(caps))
        return ("spend", at, self.number(0, self.numbers.choice((caps[at], (caps[at] + 3) // 4))))

    def script(self, caps, most):
        return tuple(self.step(caps) for _ in range(self.numbers.randint(0, most)))

    def possible_script(self, caps, levels, many):
        """Return a script that spends only what is there."""
        now, script = list(levels), []
        for _ in range(many):
            step = self.step(caps)
            if step[0] == "spend":
                step = ("spend", step[1], min(step[2], now[step[1]]))
                now[step[1]] -= step[2]
            else:
                left = step[1]
                for at, cap in enumerate(caps):
                    added = min(left, cap - now[at])
                    now[at] += added
                    left -= added
            script.append(step)
        return tuple(script)
