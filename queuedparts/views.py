"""What there is to see in a situation, for the one who explores and the one who walks."""

from queuedparts.moves import anybody_held_up, moves_in
from queuedparts.troubles import trouble_in


class View:
    """A situation, its moves in order, whether somebody is held up there, and its trouble or None."""

    def __init__(self, situation, moves, held_up, trouble):
        self.situation = situation
        self.moves = moves
        self.held_up = held_up
        self.trouble = trouble


def view_of(play, situation, bound):
    moves = moves_in(play, situation, bound)
    held_up = anybody_held_up(play, situation, bound)
    trouble = trouble_in(play, situation, not moves and not held_up)
    return View(situation, moves, held_up, trouble)
