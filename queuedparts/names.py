"""The names of a part, held against one another in the order of the text."""

from queuedparts.faults import NAMED_ALREADY, NO_SUCH_STATE, SAME_SEAT, WORKERS_SEAT, Fault


def check_names(part):
    known = part.state_numbers()
    check_state_is_there(part.start, known)
    seen = {}
    for state in part.states:
        check_not_seen(state.name, seen)
        check_seats(state.seats)
        check_branches(state.branches, part.worker, known)


def check_state_is_there(name, known):
    if name.text not in known:
        raise Fault(NO_SUCH_STATE, name.place)


def check_not_seen(name, seen):
    if name.text in seen:
        raise Fault(NAMED_ALREADY, name.place)
    seen[name.text] = True


def check_seats(seats):
    if len(seats) == 2 and seats[0].text == seats[1].text:
        raise Fault(SAME_SEAT, seats[1].place)


def check_branches(branches, worker, known):
    seen = {}
    for branch in branches:
        check_not_seen(branch.label, seen)
        check_handed(branch.handed, worker)
        check_state_is_there(branch.goal, known)


def check_handed(handed, worker):
    seen = {}
    for seat in handed:
        if seat.text == worker.text:
            raise Fault(WORKERS_SEAT, seat.place)
        check_not_seen(seat, seen)
