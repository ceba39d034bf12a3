"""Calls on an object that holds a list, or none, and what they answer."""

from fewmeasures.faults import Fault
from fewmeasures.reading import read_list
from fewmeasures.tellings import ask, bounds, counted, cover, cube, groups, least, shown, sub

LOAD = 0
SHOWN = 1
SUB = 2
CUBE = 3
LEAST = 4
BOUNDS = 5
GROUPS = 6
COVER = 7
# How many whole numbers each call has, and how many rows behind them.
NUMBERS = (0, 0, 0, 0, 1, 0, 0, 1, 0)
ROWS = (1, 0, 1, 0, 0, 2, 1, 0, 1)
NO_LIST = -1


class CallReader:
    """Goes through the numbers of the calls from left to right."""

    def __init__(self, calls):
        self.calls = calls
        self.at = 0

    def is_done(self):
        return self.at == len(self.calls)

    def take_number(self):
        self.at += 1
        return self.calls[self.at - 1]

    def take_row(self):
        length = self.take_number()
        self.at += length
        return self.calls[self.at - length:self.at]

    def take_arguments(self, call):
        """The whole numbers of the call, then its rows."""
        numbers = [self.take_number() for turn in range(NUMBERS[call])]
        return numbers + [self.take_row() for turn in range(ROWS[call])]


class Holder:
    """The object that the calls are on: it holds a list, or None."""

    def __init__(self):
        self.held = None

    def load(self, text):
        try:
            self.held = read_list(text)
        except Fault as fault:
            return [0, fault.number, fault.place]
        return [1, len(self.held.measures), len(self.held.names)]

    def answer(self, call, arguments):
        """The numbers that the call answers."""
        if call == LOAD:
            return self.load(arguments[0])
        if self.held is None:
            return [NO_LIST]
        if call == SHOWN:
            return shown(self.held)
        if call == SUB:
            return sub(self.held, arguments[0])
        if call == CUBE:
            return cube(self.held)
        if call == LEAST:
            return least(self.held, arguments[0])
        if call == BOUNDS:
            return bounds(self.held, arguments[0], arguments[1])
        if call == GROUPS:
            return groups(self.held, arguments[0])
        if call == COVER:
            return cover(self.held, arguments[0])
        return ask(self.held, arguments[0])


def answers(calls):
    """For each of the calls, in order: how many numbers it answers, and these."""
    reader = CallReader(calls)
    holder = Holder()
    told = []
    while not reader.is_done():
        call = reader.take_number()
        told.extend(counted(holder.answer(call, reader.take_arguments(call))))
    return told
