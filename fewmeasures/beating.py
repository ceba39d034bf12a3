"""Who beats whom by some measures, and the least sets by which an item is unbeaten.

Items are told by their numbers; their gains are rows in which more is better by each measure.
"""


def beats(gains, one, other, chosen):
    """Whether the one item beats the other one by the chosen measures."""
    if any([gains[one][measure] < gains[other][measure] for measure in chosen]):
        return False
    return any([gains[one][measure] > gains[other][measure] for measure in chosen])


def is_unbeaten(gains, item, among, chosen):
    return not any([beats(gains, other, item, chosen) for other in among])


def unbeaten(gains, among, chosen):
    """Those among the items that none of these items beats."""
    return [item for item in among if is_unbeaten(gains, item, among, chosen)]


def longer_sets(sets, count):
    """The sets with one greater number more, in order if the sets are."""
    longer = []
    for chosen in sets:
        first = chosen[-1] + 1 if chosen else 0
        longer.extend([chosen + [measure] for measure in range(first, count)])
    return longer


def sets_of(count):
    """All sets of so many measures, in order; the empty one is none of them."""
    sets = []
    longer = longer_sets([[]], count)
    while longer:
        sets.extend(longer)
        longer = longer_sets(longer, count)
    return sets


def winning_sets(held, item):
    """The sets of measures by which the item is unbeaten, in order."""
    everyone = list(range(len(held.names)))
    sets = sets_of(len(held.measures))
    return [chosen for chosen in sets if is_unbeaten(held.gains, item, everyone, chosen)]


def is_smaller_within(smaller, larger):
    return len(smaller) < len(larger) and all([measure in larger for measure in smaller])


def least_sets(sets):
    """Those of the sets that have no smaller one of them within."""
    # To look at the sets with one measure less would not do: among items that are the same by
    # the first measure, one may win by that and by three, and by no two of the three.
    return [chosen for chosen in sets if not any([is_smaller_within(other, chosen) for other in sets])]
