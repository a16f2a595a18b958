"""The desk takes a list of calls, one behind another, on one new company."""

from queuedparts.company import Company, answer_after, answer_enough, answer_explore, answer_hire
from queuedparts.company import answer_shown, answer_trouble, answer_walk

HIRE = 0
SHOWN = 1
EXPLORE = 2
TROUBLE = 3
ENOUGH = 4
WALK = 5
AFTER = 6


def answers(calls):
    """For each call, in order: how many numbers are answered, and these."""
    company = Company()
    given = []
    place = 0
    while place < len(calls):
        behind = call_end(calls, place)
        answer = answer_to(company, calls[place:behind])
        given.append(len(answer))
        given.extend(answer)
        place = behind
    return given


def call_end(calls, place):
    """Where the next call begins."""
    if calls[place] == HIRE:
        return place + 2 + calls[place + 1]
    if calls[place] == ENOUGH:
        return place + 1
    if calls[place] in (WALK, AFTER):
        return place + 3 + calls[place + 2]
    return place + 2


def answer_to(company, call):
    if call[0] == HIRE:
        return answer_hire(company, call[2:])
    if call[0] == SHOWN:
        return answer_shown(company, call[1])
    if call[0] == EXPLORE:
        return answer_explore(company, call[1])
    if call[0] == TROUBLE:
        return answer_trouble(company, call[1])
    if call[0] == ENOUGH:
        return answer_enough(company)
    if call[0] == WALK:
        return answer_walk(company, call[1], call[3:])
    return answer_after(company, call[1], call[3:])
