"""Who beats whom by some measures, and the least sets by which an item is unbeaten.

Items are told by their numbers; their gains are rows in which more is better by each measure.
"""

from fewmeasures.choices import is_within, sets_of


def beats(gains, one, other, chosen):
    """Whether the one item beats the other one by the chosen measures."""
    if any([gains[one][measure] < gains[other][measure] for measure in chosen]):
        return False
    return any([gains[one][measure] > gains[other][measure] for measure in chosen])


def is_unbeaten(gains, item, among, chosen):
    return not any([beats(gains, other, item, chosen) for other in among])


def unbeaten(gains, among, chosen):
    """Those among the items that none of these items beats."""
    return [item for item in among if is_unbeaten(gains, item, among, chosen)]


def winning_sets(held, item):
    """The sets of measures by which the item is unbeaten, in order."""
    everyone = held.every_item()
    sets = sets_of(len(held.measures))
    return [chosen for chosen in sets if is_unbeaten(held.gains, item, everyone, chosen)]


def is_smaller_within(smaller, larger):
    return len(smaller) < len(larger) and is_within(smaller, larger)


def least_sets(sets):
    """Those of the sets that have no smaller one of them within."""
    # To look at the sets with one measure less would not do: among items that are the same by
    # the first measure, one may win by that and by three, and by no two of the three.
    return [chosen for chosen in sets if not any([is_smaller_within(other, chosen) for other in sets])]


def candidates(held, chosen):
    """The items that have a least set within the chosen one."""
    stored = [least_sets(winning_sets(held, item)) for item in held.every_item()]
    return [item for item, kept in enumerate(stored) if any([is_within(smallest, chosen) for smallest in kept])]
