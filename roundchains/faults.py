"""What is wrong with a text that is no chain."""

TOO_LONG = 1
NO_TOKEN = 2
NOT_ALLOWED = 3
TOO_MANY = 4
TWICE = 5
NO_STATE = 6
TOO_SMALL = 7
FORM_TOO_LONG = 10
NO_WEIGHT = 11


class Fault(ValueError):
    """A text is no chain: the fault's code and its place."""

    def __init__(self, code, place):
        self.code = code
        self.place = place
