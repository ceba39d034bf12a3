"""What the calls tell of the list that is held: numbers in a row, or a refusal alone."""

from fewmeasures.beating import candidates, least_sets, unbeaten, winning_sets
from fewmeasures.choices import sets_of
from fewmeasures.forms import one_form
from fewmeasures.together import beaten_rows, beaten_together, best_together, step_by_step

NO_ITEM = -2
NO_MEASURES = -3
NO_FIT = -4
NO_SIZE = -5
LAST_GROUP = 9
MOST_TOGETHER = 4


def counted(numbers):
    """How many numbers, and they."""
    return [len(numbers)] + numbers


def are_measures(told, count):
    """Whether the numbers told are a set of measures: not none, each of them there, none twice."""
    if any([measure < 0 or measure >= count for measure in told]):
        return False
    return len(told) > 0 and len(set(told)) == len(told)


def shown(held):
    return counted(one_form(held))


def sub(held, measures):
    if not are_measures(measures, len(held.measures)):
        return [NO_MEASURES]
    return counted(unbeaten(held.gains, held.every_item(), measures))


def cube(held):
    sets = sets_of(len(held.measures))
    winning = [winning_sets(held, item) for item in held.every_item()]
    stored = [least_sets(won) for won in winning]
    told = [len(sets), sum([len(won) for won in winning]), sum([len(kept) for kept in stored])]
    for chosen in sets:
        told.extend(counted(chosen))
        told.extend(counted([item for item, kept in enumerate(stored) if chosen in kept]))
    return told


def least(held, item):
    if item < 0 or item >= len(held.names):
        return [NO_ITEM]
    winning = winning_sets(held, item)
    smallest = least_sets(winning)
    told = [len(smallest)]
    for chosen in smallest:
        told.extend(counted(chosen))
    return told + [len(winning)]


def is_between(row, low, high):
    """Whether each value is from its low number to its high one."""
    return all([lowest <= value <= highest for value, lowest, highest in zip(row, low, high)])


def bounds(held, low, high):
    measures = held.every_measure()
    if len(low) != len(measures) or len(high) != len(measures):
        return [NO_FIT]
    within = [item for item, row in enumerate(held.rows) if is_between(row, low, high)]
    return [len(within)] + counted(unbeaten(held.gains, within, measures))


def are_groups(told, count):
    """Whether each of so many items is told to be in a group."""
    return len(told) == count and all([0 <= group <= LAST_GROUP for group in told])


def groups(held, group_of):
    if not are_groups(group_of, len(held.names)):
        return [NO_FIT]
    measures = held.every_measure()
    numbers = sorted(set(group_of))
    told = [len(numbers)]
    leaders = []
    for number in numbers:
        members = [item for item, group in enumerate(group_of) if group == number]
        best = unbeaten(held.gains, members, measures)
        told.append(number)
        told.extend(counted(best))
        leaders.extend(best)
    return told + counted(unbeaten(held.gains, sorted(leaders), measures))


def cover(held, size):
    if size < 1 or size > MOST_TOGETHER or size > len(held.names):
        return [NO_SIZE]
    beaten = beaten_rows(held)
    told = []
    for some in (best_together(beaten, size), step_by_step(beaten, size)):
        told.append(beaten_together(beaten, some))
        told.extend(some)
    return told


def ask(held, measures):
    if not are_measures(measures, len(held.measures)):
        return [NO_MEASURES]
    asked = candidates(held, measures)
    return [len(asked)] + counted(unbeaten(held.gains, asked, measures))
