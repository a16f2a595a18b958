"""Promise 1: without trouble every walk ends in a situation of the list, and no queue passes the bound."""

import unittest

from queuedparts.exploring import explore as explored
from queuedparts.play import label_of, play_of
from queuedparts.reading import part_of
from tests.helper import (HUGE, Numbers, after, ask_company, codes, explore, mixed_company, one, part, read_after, read_walk,
                          text_of, walk)

PIPE = [part("A", "S = send A -> B { a() S ; z() E }", "E = stop"),
        part("B", "S = recv B <- A { a() T ; z() U }", "T = send B -> C { b() S }", "U = send B -> C { z() E }",
             "E = stop"),
        part("C", "S = recv C <- B { b() S ; z() E }", "E = stop")]

WORKED = ["part P of A start S S = send A -> B { a(num 1 3) T } T = recv A <- B { c() E } E = stop",
          "part P of B start S S = send B -> A { c() T } T = recv B <- A { a(num 0 9) E } E = stop"]

SHOUTERS = [part("A", "S = send A -> B { a() S ; b() S }"), part("B", "S = send B -> A { c() S }")]

TALKERS = [part("A", "S = send A -> B { a() S ; b() T }", "T = recv A <- B { c() S }"),
           part("B", "S = recv B <- A { a() S ; b() T }", "T = send B -> A { c() S }")]


def companies():
    told = [[text_of(one_part) for one_part in mixed_company(seed)] for seed in range(6000, 6120)]
    return [[], PIPE, WORKED, SHOUTERS, TALKERS] + told


def listed(texts, k):
    """The situations of the list, each as the workers' states and what walk tells of the queues."""
    play = play_of([part_of(codes(text)) for text in texts])
    found = []
    for situation in explored(play, k).situations:
        rows = [(route[0], route[1], [label_of(message) for message in row])
                for route, row in zip(play.routes, situation.waiting) if row]
        found.append((list(situation.standing), rows))
    return found


def rows_of_numbers(numbers):
    """Walks of many lengths, by numbers of every size."""
    rows = [[0] * 40, [-1] * 40]
    for length in (0, 1, 2, 3, 5, 8, 13, 21, 34, 55):
        rows.append([numbers.below(12) for count in range(length)])
        rows.append([numbers.below(2 * HUGE + 1) - HUGE for count in range(length)])
    return rows


class Promise1(unittest.TestCase):
    def hold(self, texts, k, rows):
        known = listed(texts, k)
        given = ask_company(texts, *[call(k, row) for row in rows for call in (walk, after)])
        for row, walked, seen in zip(rows, given[::2], given[1::2]):
            made, standing, waiting = read_walk(walked, len(texts))
            met, moves = read_after(seen)
            self.assertEqual(met, 0)
            self.assertIn((standing, waiting), known)
            self.assertLessEqual(max([0] + [len(labels) for x, y, labels in waiting]), k)
            # Without trouble a walk ends early only where there is no move.
            self.assertTrue(made == len(row) or (made < len(row) and not moves))

    def test_many_walks(self):
        held = 0
        for number, texts in enumerate(companies()):
            for k in (1, 2, 3, 5, 8):
                if one(texts, explore(k))[0] == 1:
                    self.hold(texts, k, rows_of_numbers(Numbers(number * 10 + k)))
                    held += 1
        self.assertGreater(held, 150)

    def test_walks_of_2000_moves(self):
        for texts in (PIPE, SHOUTERS, TALKERS):
            for k in (1, 3):
                numbers = Numbers(k)
                self.hold(texts, k, [[numbers.below(HUGE) for count in range(2000)] for walks in range(3)])


if __name__ == "__main__":
    unittest.main()
