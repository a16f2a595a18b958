"""Situations, and the moves that are made in them."""

from queuedparts.parts import RECV, SEND
from queuedparts.play import fits

SENT = 1
RECEIVED = 2


class Situation:
    """For each worker the number of its state; for each queue a tuple of messages, the oldest first."""

    def __init__(self, standing, waiting):
        self.standing = standing
        self.waiting = waiting

    def mark(self):
        """Equal for situations that are the same, and for no others."""
        return (self.standing, self.waiting)


class Move:
    """Who moves, SENT or RECEIVED, with which queue, and by which choice of the worker's step.

    The situation that it leads to is not kept: on a walk only one of many moves is made.
    """

    def __init__(self, worker, deed, queue, choice):
        self.worker = worker
        self.deed = deed
        self.queue = queue
        self.choice = choice


def first_situation(play):
    return Situation(play.starts, tuple([() for route in play.routes]))


def steps_in(play, situation):
    """At which step each worker stands."""
    return [role[state] for role, state in zip(play.roles, situation.standing)]


def moves_in(play, situation, bound):
    found = []
    for worker, step in enumerate(steps_in(play, situation)):
        if step.kind == SEND and not is_held_up(step, situation, bound):
            found.extend([Move(worker, SENT, step.queue, choice) for choice in step.choices])
        elif step.kind == RECV and situation.waiting[step.queue]:
            found.extend([Move(worker, RECEIVED, step.queue, choice) for choice in takers(step, situation)])
    return found


def is_held_up(step, situation, bound):
    return step.kind == SEND and len(situation.waiting[step.queue]) >= bound


def anybody_held_up(play, situation, bound):
    return any([is_held_up(step, situation, bound) for step in steps_in(play, situation)])


def takers(step, situation):
    """The one choice that takes the oldest message, or none; something waits."""
    oldest = situation.waiting[step.queue][0]
    return [choice for choice in step.choices if fits(oldest, choice.message)]


def outcome_of(situation, move):
    """The situation that a move leads to."""
    messages = changed_queue(situation.waiting[move.queue], move)
    return Situation(
        with_changed(situation.standing, move.worker, move.choice.goal),
        with_changed(situation.waiting, move.queue, messages),
    )


def changed_queue(messages, move):
    if move.deed == SENT:
        return messages + (move.choice.message,)
    return messages[1:]


def with_changed(row, place, thing):
    return row[:place] + (thing,) + row[place + 1:]
