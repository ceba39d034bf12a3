"""What can be wrong with a text."""

TOO_LONG = 1
NO_TOKEN = 2
NOT_ALLOWED = 3
TOO_MANY = 4
NAME_TWICE = 5
TOO_GREAT = 7


class Fault(Exception):
    """The text is no list: the fault's number, and the place where it is."""

    def __init__(self, number, place):
        Exception.__init__(self)
        self.number = number
        self.place = place
