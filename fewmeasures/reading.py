"""Reads a list out of a text."""

from fewmeasures.faults import NAME_TWICE, NOT_ALLOWED, TOO_GREAT, TOO_LONG, TOO_MANY, Fault
from fewmeasures.held import HeldList
from fewmeasures.tokens import END, NAME, NUMBER, amount, tokens_of

MOST_BYTES = 4096
MOST_MEASURES = 4
MOST_ITEMS = 16
GREATEST_VALUE = 1000


class TokenReader:
    """Goes through the tokens from left to right."""

    def __init__(self, tokens):
        self.tokens = tokens
        self.at = 0

    def take(self, kinds):
        """The token that comes now, which has to be of one of these kinds."""
        token = self.tokens[self.at]
        if token.kind not in kinds:
            raise Fault(NOT_ALLOWED, token.place)
        self.at += 1
        return token


def refuse_too_many(token, earlier, most):
    if len(earlier) == most:
        raise Fault(TOO_MANY, token.place)


def refuse_name_twice(token, earlier):
    if token.spelling in earlier:
        raise Fault(NAME_TWICE, token.place)


def value_of(token):
    """The value, without its sign, that a number's token tells."""
    value = amount(token.spelling)
    if value > GREATEST_VALUE:
        raise Fault(TOO_GREAT, token.place)
    return value


def read_value(reader):
    token = reader.take(("-", NUMBER))
    if token.kind == "-":
        return -value_of(reader.take((NUMBER,)))
    return value_of(token)


def read_row(reader, width):
    """As many values as there are measures, and the sign behind them."""
    row = [read_value(reader)]
    while len(row) < width:
        reader.take((",",))
        row.append(read_value(reader))
    reader.take((";",))
    return row


def read_measures(reader, held):
    reader.take(("measures",))
    sign = ","
    while sign == ",":
        name = reader.take((NAME,))
        refuse_too_many(name, held.measures, MOST_MEASURES)
        refuse_name_twice(name, held.measures)
        way = reader.take(("up", "down"))
        held.add_measure(name.spelling, way.kind)
        sign = reader.take((",", ";")).kind


def read_items(reader, held):
    start = reader.take(("item", END))
    while start.kind == "item":
        refuse_too_many(start, held.names, MOST_ITEMS)
        name = reader.take((NAME,))
        refuse_name_twice(name, held.names)
        reader.take((":",))
        held.add_item(name.spelling, read_row(reader, len(held.measures)))
        start = reader.take(("item", END))


def read_list(text):
    """The list that the text tells; a Fault is raised if it is none."""
    if len(text) > MOST_BYTES:
        raise Fault(TOO_LONG, MOST_BYTES)
    # All tokens are made first: a place without a token is told before any fault of their order.
    reader = TokenReader(tokens_of(text))
    held = HeldList()
    read_measures(reader, held)
    read_items(reader, held)
    return held
