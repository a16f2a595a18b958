"""The company, and what each call answers of it: a list of numbers."""

from queuedparts.exploring import explore
from queuedparts.faults import Fault
from queuedparts.oneform import one_form
from queuedparts.play import play_of
from queuedparts.reading import part_of
from queuedparts.telling import moves_told, queues_told, told
from queuedparts.walking import walk

MOST_WORKERS = 8
GREATEST_BOUND = 8

NOT_THERE = -2
NO_ROOM = -3
NAME_TAKEN = -4
NONE_SUCH = -5
TOO_MANY = -6


class Company:
    """The parts of the hired workers, in order, and the play that they make together."""

    def __init__(self):
        self.parts = []
        self.play = play_of([])
        self.explored = {}

    def hire(self, part):
        self.parts.append(part)
        self.play = play_of(self.parts)
        self.explored = {}

    def employs(self, name):
        return any([part.worker.text == name for part in self.parts])

    def exploration(self, bound):
        # A line may ask for the same bound hundreds of times between two hires.
        if bound not in self.explored:
            self.explored[bound] = explore(self.play, bound)
        return self.explored[bound]


def is_bound(k):
    return 1 <= k <= GREATEST_BOUND


def answer_hire(company, source):
    try:
        part = part_of(source)
    except Fault as fault:
        return [0, fault.code, fault.place]
    if len(company.parts) == MOST_WORKERS:
        return [NO_ROOM]
    if company.employs(part.worker.text):
        return [NAME_TAKEN]
    company.hire(part)
    return [1, len(company.parts) - 1]


def answer_shown(company, worker):
    if worker < 0 or worker >= len(company.parts):
        return [NOT_THERE]
    return told(one_form(company.parts[worker]))


def answer_explore(company, k):
    if not is_bound(k):
        return [NOT_THERE]
    found = company.exploration(k)
    if found.trouble is not None:
        return [0]
    if found.too_many:
        return [TOO_MANY]
    return [1, len(found.situations), found.move_total, found.most_waiting, found.held_up_total]


def answer_trouble(company, k):
    if not is_bound(k):
        return [NOT_THERE]
    found = company.exploration(k)
    if found.too_many:
        return [TOO_MANY]
    if found.trouble is None:
        return [NONE_SUCH]
    trouble = found.trouble
    return [trouble.number, trouble.first, trouble.second] + told(trouble.label) + moves_told(found.way)


def answer_enough(company):
    for bound in range(1, GREATEST_BOUND + 1):
        found = company.exploration(bound)
        if found.trouble is not None or found.too_many:
            return [NONE_SUCH]
        if found.held_up_total == 0:
            return [bound]
    return [NONE_SUCH]


def answer_walk(company, k, numbers):
    if not is_bound(k):
        return [NOT_THERE]
    walked = walk(company.play, k, numbers)
    situation = walked.view.situation
    return [walked.made] + list(situation.standing) + queues_told(company.play, situation)


def answer_after(company, k, numbers):
    if not is_bound(k):
        return [NOT_THERE]
    view = walk(company.play, k, numbers).view
    number = 0 if view.trouble is None else view.trouble.number
    return [number] + moves_told(view.moves)
