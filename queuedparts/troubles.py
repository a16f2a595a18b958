"""What may be wrong in a situation."""

from queuedparts.moves import steps_in, takers
from queuedparts.parts import RECV, STOP
from queuedparts.play import label_of

STANDSTILL = 1
SURPRISE = 2
RIVALS = 3
LEFT_OVER = 4


class Trouble:
    """A trouble's number, its two workers, and a label, which is empty where there is none."""

    def __init__(self, number, first, second, label):
        self.number = number
        self.first = first
        self.second = second
        self.label = label


def trouble_in(play, situation, stuck):
    """The first trouble of a situation, or None. Stuck: there is no move, and nobody is held up."""
    steps = steps_in(play, situation)
    trouble = surprise_in(steps, situation)
    if trouble is None:
        trouble = rivals_in(steps)
    if trouble is not None:
        return trouble
    if all([step.kind == STOP for step in steps]):
        return left_over_in(situation)
    if stuck:
        return standstill_in(steps)
    return None


def surprise_in(steps, situation):
    for worker, step in enumerate(steps):
        if step.kind == RECV and situation.waiting[step.queue] and not takers(step, situation):
            return Trouble(SURPRISE, worker, worker, label_of(situation.waiting[step.queue][0]))
    return None


def rivals_in(steps):
    for worker, step in enumerate(steps):
        rival = first_rival(steps, worker, step)
        if rival is not None:
            return Trouble(RIVALS, worker, rival, "")
    return None


def first_rival(steps, worker, step):
    if step.kind == RECV:
        for other in range(worker + 1, len(steps)):
            if steps[other].kind == RECV and steps[other].queue == step.queue:
                return other
    return None


def left_over_in(situation):
    for messages in situation.waiting:
        if messages:
            return Trouble(LEFT_OVER, 0, 0, label_of(messages[0]))
    return None


def standstill_in(steps):
    busy = [worker for worker, step in enumerate(steps) if step.kind != STOP]
    return Trouble(STANDSTILL, busy[0], busy[0], "")
