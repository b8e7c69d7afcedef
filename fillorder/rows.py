"""Rows of plain envelopes, given by their caps and levels, and scripts of steps on them."""


def filled(caps, levels, amount):
    """Return the levels after a pour of the amount, and what is left over."""
    after = []
    left = amount
    for cap, level in zip(caps, levels):
        added = min(left, cap - level)
        after.append(level + added)
        left -= added
    return tuple(after), left


def lowered(levels, place, amount):
    """Return the levels with the one at the place smaller by the amount."""
    return levels[:place] + (levels[place] - amount,) + levels[place + 1:]


def run(caps, levels, script):
    """Return the levels after the script and what is lost, or None if a step is refused."""
    now = levels
    lost = 0
    for step in script:
        if step[0] == "pour":
            now, left = filled(caps, now, step[1])
            lost += left
        elif step[2] > now[step[1]]:
            return None
        else:
            now = lowered(now, step[1], step[2])
    return now, lost


def prefix_effects(caps, script):
    """Return a pair (p, q) for each beginning of the row: the script changes its sum S to min(S + p, q)."""
    return [prefix_effect(caps[:many], script) for many in range(1, len(caps) + 1)]


def prefix_effect(caps, script):
    """Return the pair (p, q) of the envelopes at the beginning of the row that have these caps."""
    most = sum(caps)
    p = 0
    q = most
    for step in script:
        if step[0] == "pour":
            p += step[1]
            q = min(q + step[1], most)
        elif step[1] < len(caps):
            p -= step[2]
            q -= step[2]
    return p, q


def commute(caps, one, other):
    """Tell whether both orders of two steps do the same from all levels."""
    if one[0] == other[0]:
        return True
    pouring = one if one[0] == "pour" else other
    spending = other if one[0] == "pour" else one
    if pouring[1] == 0 or spending[2] == 0:
        return True
    # If the cap allows the spending, the money in the envelope can be short of it by 1 while all
    # envelopes before it are full: then it is possible only after the pour.
    return spending[2] > caps[spending[1]]


def all_levels(caps):
    """Return the ascending list of all levels that the row can have."""
    rows = [()]
    for cap in caps:
        rows = [row + (level,) for row in rows for level in range(cap + 1)]
    return rows


def same_results(caps, first, second):
    """Tell whether two scripts lead to the same levels wherever both are possible."""
    return all([agree(run(caps, levels, first), run(caps, levels, second)) for levels in all_levels(caps)])


def agree(one, other):
    """Tell whether two results of run have the same levels, or one of them has none."""
    return one is None or other is None or one[0] == other[0]


def least_starts(caps, script):
    """Return the ascending list of the levels that make the script possible, and none of which can be smaller."""
    possible = {levels: True for levels in all_levels(caps) if run(caps, levels, script) is not None}
    return [levels for levels in possible if not any([less in possible for less in one_less(levels)])]


def one_less(levels):
    """Return the levels with one of them smaller by 1, for each one; some may be below 0."""
    return [lowered(levels, place, 1) for place in range(len(levels))]
