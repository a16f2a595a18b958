"""The one form in which a part is shown."""

from queuedparts.parts import FLAG, NUM, SEND, STOP


def one_form(part):
    lines = ["part " + part.title.text + " of " + part.worker.text, "start " + part.start.text]
    lines.extend([state_line(state) for state in part.states])
    return "".join([line + "\n" for line in lines])


def state_line(state):
    if state.kind == STOP:
        return state.name.text + " = stop"
    arrow = "->" if state.kind == SEND else "<-"
    branches = " ; ".join([branch_form(branch) for branch in state.branches])
    seats = [state.seats[0].text, arrow, state.seats[1].text]
    return " ".join([state.name.text, "=", state.kind] + seats + ["{", branches, "}"])


def branch_form(branch):
    ranges = ", ".join([range_form(span) for span in branch.ranges])
    handed = ", ".join([seat.text for seat in branch.handed])
    brackets = "[" + handed + "]" if branch.handed else ""
    return branch.label.text + "(" + ranges + ")" + brackets + " " + branch.goal.text


def range_form(span):
    if span[0] == FLAG:
        return FLAG
    if span[0] == NUM:
        return " ".join([NUM, str(span[1]), str(span[2])])
    return " ".join([span[0], str(span[2])])
