"""Calls on an object that holds a list, or none, and what they answer."""

from fewmeasures.beating import least_sets, sets_of, unbeaten, winning_sets
from fewmeasures.faults import Fault
from fewmeasures.forms import one_form
from fewmeasures.reading import read_list

LOAD = 0
SHOWN = 1
SUB = 2
CUBE = 3
LEAST = 4
# How many whole numbers each call has, and how many rows behind them. Calls that are not
# answered yet stand here too, so that what comes behind one of them is found.
NUMBERS = (0, 0, 0, 0, 1, 0, 0, 1, 0)
ROWS = (1, 0, 1, 0, 0, 2, 1, 0, 1)
NO_LIST = -1
NO_ITEM = -2
NO_MEASURES = -3


class CallReader:
    """Goes through the numbers of the calls from left to right."""

    def __init__(self, calls):
        self.calls = calls
        self.at = 0

    def is_done(self):
        return self.at == len(self.calls)

    def take_number(self):
        self.at += 1
        return self.calls[self.at - 1]

    def take_row(self):
        length = self.take_number()
        self.at += length
        return self.calls[self.at - length:self.at]

    def take_arguments(self, call):
        """The whole numbers of the call, then its rows."""
        numbers = [self.take_number() for turn in range(NUMBERS[call])]
        return numbers + [self.take_row() for turn in range(ROWS[call])]


class Holder:
    """The object that the calls are on: it holds a list, or None."""

    def __init__(self):
        self.held = None

    def load(self, text):
        try:
            self.held = read_list(text)
        except Fault as fault:
            return [0, fault.number, fault.place]
        return [1, len(self.held.measures), len(self.held.names)]

    def answer(self, call, arguments):
        """The numbers that the call answers; none for a call that is not there yet."""
        if call == LOAD:
            return self.load(arguments[0])
        if self.held is None:
            return [NO_LIST]
        if call == SHOWN:
            return counted(one_form(self.held))
        if call == SUB:
            return sub(self.held, arguments[0])
        if call == CUBE:
            return cube(self.held)
        if call == LEAST:
            return least(self.held, arguments[0])
        return []


def counted(numbers):
    """How many numbers, and they."""
    return [len(numbers)] + numbers


def are_measures(told, count):
    """Whether the numbers told are a set of measures: not none, each of them there, none twice."""
    if any([measure < 0 or measure >= count for measure in told]):
        return False
    return len(told) > 0 and len(set(told)) == len(told)


def sub(held, measures):
    if not are_measures(measures, len(held.measures)):
        return [NO_MEASURES]
    everyone = list(range(len(held.names)))
    return counted(unbeaten(held.gains, everyone, measures))


def cube(held):
    sets = sets_of(len(held.measures))
    winning = [winning_sets(held, item) for item in range(len(held.names))]
    stored = [least_sets(won) for won in winning]
    told = [len(sets), sum([len(won) for won in winning]), sum([len(kept) for kept in stored])]
    for chosen in sets:
        told.extend(counted(chosen))
        told.extend(counted([item for item, kept in enumerate(stored) if chosen in kept]))
    return told


def least(held, item):
    if item < 0 or item >= len(held.names):
        return [NO_ITEM]
    winning = winning_sets(held, item)
    smallest = least_sets(winning)
    told = [len(smallest)]
    for chosen in smallest:
        told.extend(counted(chosen))
    return told + [len(winning)]


def answers(calls):
    """For each of the calls, in order: how many numbers it answers, and these."""
    reader = CallReader(calls)
    holder = Holder()
    told = []
    while not reader.is_done():
        call = reader.take_number()
        told.extend(counted(holder.answer(call, reader.take_arguments(call))))
    return told
