"""Sets that can be chosen among the numbers from 0 on, each in order."""


def longer_sets(sets, count):
    """The sets with one greater number more, which is below the count; in order if the sets are."""
    longer = []
    for chosen in sets:
        first = chosen[-1] + 1 if chosen else 0
        longer.extend([chosen + [number] for number in range(first, count)])
    return longer


def sets_of_size(size, count):
    """All sets of that size among so many numbers, in order."""
    sets = [[]]
    for turn in range(size):
        sets = longer_sets(sets, count)
    return sets


def sets_of(count):
    """All sets among so many numbers, in order; the empty one is none of them."""
    sets = []
    for size in range(1, count + 1):
        sets.extend(sets_of_size(size, count))
    return sets


def is_within(inner, outer):
    return all([number in outer for number in inner])
