"""A walk: from the first situation on, one move for each number."""

from queuedparts.moves import first_situation, outcome_of
from queuedparts.views import view_of


class Walk:
    """How many moves were made, and the view of the situation at the walk's end."""

    def __init__(self, made, view):
        self.made = made
        self.view = view


def walk(play, bound, numbers):
    made = 0
    view = view_of(play, first_situation(play), bound)
    while made < len(numbers) and view.moves and view.trouble is None:
        move = view.moves[numbers[made] % len(view.moves)]
        view = view_of(play, outcome_of(view.situation, move), bound)
        made += 1
    return Walk(made, view)
