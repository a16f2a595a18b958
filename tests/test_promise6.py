"""Promise 6: the parts of all parties of a script never come to trouble, and somebody can always move.

A script here is a list of rows. A row is (who chooses, who is told, in this order, and the choices as
(label, ranges, the next row's number)); a row of which nobody chooses is the end. Each one whom a choice
concerns is told of it, and one whom a row leaves out goes on at the row behind it.
"""

import unittest

from queuedparts.exploring import explore as explored
from queuedparts.play import play_of
from queuedparts.reading import part_of
from queuedparts.views import view_of
from tests.helper import (Numbers, after, ask_company, codes, enough, explore, read_after, read_walk, text_of, trouble,
                          walk)

BOUNDS = range(1, 9)
PARTIES = ["Buyer", "Shop", "Bank"]
END = (None, [], [])

SALE = [("Buyer", ["Shop"], [("want", ["text 20"], 1)]),
        ("Shop", ["Buyer", "Bank"], [("price", ["num 0 500"], 2), ("none", [], 5)]),
        ("Buyer", ["Bank", "Shop"], [("pay", ["num 0 500"], 3), ("leave", [], 0), ("bye", [], 5)]),
        ("Bank", ["Shop", "Buyer"], [("paid", [], 4), ("refused", ["flag"], 0)]),
        ("Shop", ["Buyer"], [("goods", [], 5)]),
        END]

CHAIN = [("Buyer", ["Shop"], [("a", [], 1)]), ("Shop", ["Bank"], [("b", [], 2)]), ("Bank", ["Buyer"], [("c", [], 3)]), END]

ROUND = [("Buyer", ["Shop", "Bank"], [("on", [], 0), ("off", [], 1)]), END]


def goes_on(script, party, row):
    """The first row from here on in which the party takes part; one that is left out has no choice to hear of."""
    while script[row][0] is not None and party != script[row][0] and party not in script[row][1]:
        row = script[row][2][0][2]
    return row


def part_in(script, party):
    states = []
    for number, (chooser, hearers, choices) in enumerate(script):
        name = f"R{number}"
        goals = [f"R{goes_on(script, party, goal)}" for text, ranges, goal in choices]
        if chooser is None:
            states.append((name, "stop", "", "", []))
        elif party == chooser:
            states += sends(name, party, hearers, choices, goals)
        elif party in hearers:
            branches = [(text, ranges, [], goal) for (text, ranges, row), goal in zip(choices, goals)]
            states.append((name, "recv", chooser, party, branches))
    return (party, f"R{goes_on(script, party, 0)}", states)


def sends(name, party, hearers, choices, goals):
    """The first one is told what is chosen, and then each other one the same."""
    last = len(hearers) == 1
    branches = [(text, ranges, [], goal if last else f"{name}x{number}")
                for number, ((text, ranges, row), goal) in enumerate(zip(choices, goals))]
    states = [(name, "send", party, hearers[0], branches)]
    if not last:
        for number, ((text, ranges, row), goal) in enumerate(zip(choices, goals)):
            states.append((f"{name}x{number}", "send", party, hearers[1], [(text, ranges, [], goal)]))
    return states


def mixed_script(seed):
    numbers = Numbers(seed)
    size = 2 + numbers.below(4)
    script = []
    for row in range(size - 1):
        chooser = numbers.choose(PARTIES)
        others = [party for party in PARTIES if party != chooser][::1 - 2 * numbers.below(2)]
        if numbers.below(3) == 0:
            # One is left out: there is no choice, and it goes on, so that it comes to its own turn.
            script.append((chooser, others[:1], [("m", [], row + 1)]))
        else:
            count = 1 + numbers.below(3)
            script.append((chooser, others, [(f"c{n}", numbers.choose([[], ["flag"]]), numbers.below(size))
                                             for n in range(count)]))
    return script + [END]


class Promise6(unittest.TestCase):
    def scripts(self):
        return [SALE, CHAIN, ROUND] + [mixed_script(seed) for seed in range(60)]

    def texts(self, script):
        return [text_of(part_in(script, party)) for party in PARTIES]

    def test_parts_of_one_script(self):
        self.assertEqual(self.texts(CHAIN)[1],
                         "part P of Shop\nstart R0\nR0 = recv Shop <- Buyer { a() R1 }\n"
                         "R1 = send Shop -> Bank { b() R3 }\nR3 = stop\n")

    def test_no_trouble_however_short_the_queues_are(self):
        explored_whole = 0
        for script in self.scripts():
            given = ask_company(self.texts(script), *[call(k) for k in BOUNDS for call in (explore, trouble)])
            for found, met in zip(given[::2], given[1::2]):
                self.assertIn((found[0], met), ((1, [-5]), (-6, [-6])), script)
                explored_whole += found[0] == 1
        self.assertGreater(explored_whole, 350)

    def test_enough(self):
        twice = [("Buyer", ["Shop"], [("a", [], 1)]), ("Buyer", ["Shop"], [("b", [], 2)]), END]
        self.assertEqual(ask_company(self.texts(CHAIN), enough()), [[1]])
        self.assertEqual(ask_company(self.texts(twice), enough()), [[2]])
        # One may fall behind without end while the others go round.
        self.assertEqual(ask_company(self.texts(SALE), enough()), [[-5]])
        self.assertEqual(ask_company(self.texts(ROUND), enough()), [[-5]])

    def test_somebody_can_move_in_each_situation_of_the_list(self):
        for script in self.scripts():
            play = play_of([part_of(codes(text)) for text in self.texts(script)])
            for k in (1, 2, 3):
                for situation in explored(play, k).situations:
                    all_stopped = all(not role[state].choices for role, state in zip(play.roles, situation.standing))
                    done = all_stopped and not any(situation.waiting)
                    self.assertEqual(not view_of(play, situation, k).moves, done)

    def test_a_walk_ends_early_only_when_all_have_stopped_and_nothing_waits(self):
        ended = 0
        for seed, script in enumerate(self.scripts()):
            numbers = Numbers(seed)
            parts = [part_in(script, party) for party in PARTIES]
            rows = [[numbers.below(600) for step in range(numbers.below(80))] for count in range(10)]
            for k in (1, 2, 8):
                given = ask_company(self.texts(script), *[call(k, row) for row in rows for call in (walk, after)])
                for row, walked, seen in zip(rows, given[::2], given[1::2]):
                    made, standing, waiting = read_walk(walked, 3)
                    met, moves = read_after(seen)
                    self.assertEqual(met, 0)
                    stopped = all(told[2][state][1] == "stop" for told, state in zip(parts, standing))
                    self.assertEqual(not moves, stopped and not waiting)
                    self.assertTrue(made == len(row) or not moves)
                    ended += not moves
        self.assertGreater(ended, 200)


if __name__ == "__main__":
    unittest.main()
