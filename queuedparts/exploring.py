"""All situations that a play can come to."""

from queuedparts.moves import first_situation, outcome_of
from queuedparts.views import view_of

MOST_SITUATIONS = 1000


class Exploration:
    """What exploring has found so far; once it has ended, what there is to tell of it.

    To each situation of the list belongs its arrival: the place in the list from which it was put
    there, and the move by which this was done.
    """

    def __init__(self, first):
        self.situations = [first]
        self.arrivals = [None]
        self.known = {first.mark(): True}
        self.too_many = False
        self.trouble = None
        self.way = []
        self.move_total = 0
        self.most_waiting = 0
        self.held_up_total = 0

    def put(self, origin, move):
        """Puts the situation that a move leads to at the list's end, unless it is there already."""
        outcome = outcome_of(self.situations[origin], move)
        mark = outcome.mark()
        if mark not in self.known:
            self.known[mark] = True
            self.situations.append(outcome)
            self.arrivals.append((origin, move))

    def tally(self, view):
        self.move_total += len(view.moves)
        self.most_waiting = max([self.most_waiting] + [len(messages) for messages in view.situation.waiting])
        self.held_up_total += 1 if view.held_up else 0

    def way_to(self, place):
        found = []
        while self.arrivals[place] is not None:
            found.append(self.arrivals[place][1])
            place = self.arrivals[place][0]
        return list(reversed(found))


def explore(play, bound):
    exploration = Exploration(first_situation(play))
    place = 0
    while place < len(exploration.situations) and exploration.trouble is None and not exploration.too_many:
        if len(exploration.situations) > MOST_SITUATIONS:
            exploration.too_many = True
        else:
            look_at(exploration, place, play, bound)
        place += 1
    return exploration


def look_at(exploration, place, play, bound):
    view = view_of(play, exploration.situations[place], bound)
    exploration.trouble = view.trouble
    if view.trouble is not None:
        exploration.way = exploration.way_to(place)
        return
    exploration.tally(view)
    for move in view.moves:
        exploration.put(place, move)
