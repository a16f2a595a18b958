"""The one fault that a text has which is no part."""

TOO_LONG = 1
NO_TOKEN = 2
NOT_ALLOWED = 3
ONE_TOO_MANY = 4
NAMED_ALREADY = 5
NO_SUCH_STATE = 6
NO_BOUNDS = 7
SAME_SEAT = 8
WORKERS_SEAT = 9
FORM_TOO_LONG = 10


class Fault(Exception):
    """What is wrong with a text, and at which offset."""

    def __init__(self, code, place):
        self.code = code
        self.place = place
