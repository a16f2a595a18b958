"""What a part is made of. Names are kept as the tokens that they were read from."""

STOP = "stop"
SEND = "send"
RECV = "recv"

FLAG = "flag"
NUM = "num"
TEXT = "text"


class Branch:
    """A label, its ranges, the handed seats, and the name of the state behind it.

    A range is a tuple of its word, its least and its greatest number, so that one comparison does for
    all three kinds: a flag has 0 and 0, a text 0 and its number.
    """

    def __init__(self, label, ranges, handed, goal):
        self.label = label
        self.ranges = ranges
        self.handed = handed
        self.goal = goal


class State:
    """A state; its two seats are kept in the order in which they are written."""

    def __init__(self, name, kind, seats, branches):
        self.name = name
        self.kind = kind
        self.seats = seats
        self.branches = branches

    def route(self):
        """From which seat to which one its messages go."""
        first = self.seats[0].text
        second = self.seats[1].text
        if self.kind == SEND:
            return (first, second)
        return (second, first)


class Part:
    """A title, the worker's name, the start state's name, and the states."""

    def __init__(self, title, worker, start, states):
        self.title = title
        self.worker = worker
        self.start = start
        self.states = states

    def state_numbers(self):
        """Each state's number by its name."""
        return dict([(state.name.text, number) for number, state in enumerate(self.states)])
