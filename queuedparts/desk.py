"""The desk takes a list of calls, one behind another, on one new company."""

from queuedparts.company import Company, answer_explore, answer_hire, answer_shown, answer_trouble

HIRE = 0
SHOWN = 1
EXPLORE = 2
TROUBLE = 3


def answers(calls):
    """For each call, in order: how many numbers are answered, and these."""
    company = Company()
    given = []
    place = 0
    while place < len(calls):
        behind = call_end(calls, place)
        answer = answer_to(company, calls[place:behind])
        given.append(len(answer))
        given.extend(answer)
        place = behind
    return given


def call_end(calls, place):
    if calls[place] == HIRE:
        return place + 2 + calls[place + 1]
    return place + 2


def answer_to(company, call):
    if call[0] == HIRE:
        return answer_hire(company, call[2:])
    if call[0] == SHOWN:
        return answer_shown(company, call[1])
    if call[0] == EXPLORE:
        return answer_explore(company, call[1])
    if call[0] == TROUBLE:
        return answer_trouble(company, call[1])
    raise NotImplementedError("no such call yet")
