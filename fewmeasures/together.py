"""Some items that together beat most others: the best of all such sets, and those found step by step.

What each item beats is told as rows: for each item, in order, the items that it beats.
"""

from fewmeasures.beating import beats
from fewmeasures.choices import sets_of_size


def beaten_rows(held):
    """For each item those that it beats by all measures."""
    everyone = held.every_item()
    measures = held.every_measure()
    rows = []
    for one in everyone:
        rows.append([other for other in everyone if beats(held.gains, one, other, measures)])
    return rows


def beaten_together(beaten, some):
    """How many items are beaten by one of those at least."""
    all_beaten = []
    for item in some:
        all_beaten.extend(beaten[item])
    return len(set(all_beaten))


def best_together(beaten, size):
    """The first set of that size that beats most together."""
    # Of several that are greatest, max tells the first.
    return max(sets_of_size(size, len(beaten)), key=lambda some: beaten_together(beaten, some))


def next_step(beaten, taken):
    """The first item with which those taken beat most together."""
    left = [item for item in range(len(beaten)) if item not in taken]
    return max(left, key=lambda item: beaten_together(beaten, taken + [item]))


def step_by_step(beaten, size):
    """So many items, in the order in which they are taken."""
    taken = []
    for turn in range(size):
        taken.append(next_step(beaten, taken))
    return taken
