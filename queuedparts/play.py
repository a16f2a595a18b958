"""The parts of a company put together, so that they can run.

Queues have numbers in the order of the names of their two seats, and the queues of a situation stand in
that order. A message is a tuple of its label, its ranges and its handed seats: tuples can be looked up
in a dict, and by that a situation is known again.
"""

from queuedparts.parts import STOP


class Play:
    """All routes (tuples of two seats) in order, and for each worker its first state and its steps."""

    def __init__(self, routes, starts, roles):
        self.routes = routes
        self.starts = starts
        self.roles = roles


class Step:
    """What a worker does at a state: with which queue, and which choices, in the order of labels."""

    def __init__(self, kind, queue, choices):
        self.kind = kind
        self.queue = queue
        self.choices = choices


class Choice:
    """A message that may be sent or heard, and the number of the state behind it."""

    def __init__(self, message, goal):
        self.message = message
        self.goal = goal


def play_of(parts):
    routes = routes_of(parts)
    numbers = dict([(route, number) for number, route in enumerate(routes)])
    starts = tuple([part.state_numbers()[part.start.text] for part in parts])
    return Play(routes, starts, [role_of(part, numbers) for part in parts])


def routes_of(parts):
    found = {}
    for part in parts:
        for state in part.states:
            if state.kind != STOP:
                found[state.route()] = True
    return sorted(found)


def role_of(part, queue_numbers):
    state_numbers = part.state_numbers()
    return [step_of(state, state_numbers, queue_numbers) for state in part.states]


def step_of(state, state_numbers, queue_numbers):
    if state.kind == STOP:
        return Step(STOP, None, [])
    branches = sorted(state.branches, key=lambda branch: branch.label.text)
    choices = [Choice(message_of(branch), state_numbers[branch.goal.text]) for branch in branches]
    return Step(state.kind, queue_numbers[state.route()], choices)


def message_of(branch):
    return (branch.label.text, branch.ranges, tuple([seat.text for seat in branch.handed]))


def label_of(message):
    return message[0]


def fits(message, asked):
    """Whether a message can be taken by the branch that asks for another one."""
    same_label = message[0] == asked[0]
    same_handed = message[2] == asked[2]
    return same_label and same_handed and all_within(message[1], asked[1])


def all_within(spans, outers):
    return len(spans) == len(outers) and all([lies_within(span, outer) for span, outer in zip(spans, outers)])


def lies_within(span, outer):
    return span[0] == outer[0] and span[1] >= outer[1] and span[2] <= outer[2]
