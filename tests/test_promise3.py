"""Promise 3: what a greater bound changes, and what it does not."""

import unittest

from queuedparts.exploring import explore as explored
from queuedparts.play import play_of
from queuedparts.reading import part_of
from tests.helper import ask_company, codes, explore, mixed_company, part, text_of, trouble

BOUNDS = range(1, 9)

PIPE = [part("A", "S = send A -> B { a() S ; z() E }", "E = stop"),
        part("B", "S = recv B <- A { a() T ; z() U }", "T = send B -> C { b() S }", "U = send B -> C { z() E }",
             "E = stop"),
        part("C", "S = recv C <- B { b() S ; z() E }", "E = stop")]

# Two that send before they hear: with a bound of 1 they hold one another up, and nobody is surprised.
CROSSED = [part("A", "S = send A -> B { a() T }", "T = send A -> B { b() U }", "U = recv A <- B { x() E }", "E = stop"),
           part("B", "S = send B -> A { c() T }", "T = send B -> A { d() U }", "U = recv B <- A { y() E }", "E = stop")]

WORKED = ["part P of A start S S = send A -> B { a(num 1 3) T } T = recv A <- B { c() E } E = stop",
          "part P of B start S S = send B -> A { c() T } T = recv B <- A { a(num 0 9) E } E = stop"]

SURPRISED = [WORKED[0], WORKED[1].replace("num 0 9", "num 2 9")]

ALONE = [part("A", "S = send A -> B { a() S }")]


def companies():
    told = [[text_of(one) for one in mixed_company(seed)] for seed in range(2000, 2120)]
    return [[], PIPE, CROSSED, WORKED, SURPRISED, ALONE] + told


def way_length(answer):
    return answer[4 + answer[3]]


def marks(found):
    """The situations of the list, each one once."""
    listed = [situation.mark() for situation in found.situations]
    if len(set(listed)) != len(listed):
        raise AssertionError("a situation stands twice in the list")
    return set(listed)


class Answers(unittest.TestCase):
    def test_examples(self):
        self.assertEqual([a[0] for a in ask_company(CROSSED, *map(trouble, BOUNDS))], [-5] + [2] * 7)
        self.assertEqual(ask_company(ALONE, *map(explore, BOUNDS)), [[1, k + 1, k, k, 1] for k in BOUNDS])
        self.assertEqual(ask_company(WORKED, *map(explore, BOUNDS)), [[1, 7, 8, 1, 0]] * 8)
        self.assertEqual(ask_company(SURPRISED, *map(trouble, BOUNDS)),
                         [[2, 1, 1, 1, 97, 2, 0, 1, 1, 97, 1, 1, 1, 99]] * 8)

    def test_held_against_one_another(self):
        for texts in companies():
            given = ask_company(texts, *map(explore, BOUNDS))
            troubles = ask_company(texts, *map(trouble, BOUNDS))
            for lesser in range(8):
                for greater in range(lesser, 8):
                    self.hold(given[lesser], given[greater], troubles[lesser], troubles[greater])

    def hold(self, lesser, greater, trouble_before, trouble_after):
        if lesser == [0]:
            # It may be that there are too many before the same trouble is come to.
            self.assertIn(greater, ([0], [-6]))
            if greater == [0]:
                self.assertLessEqual(way_length(trouble_after), way_length(trouble_before))
        if lesser[0] == 1 and greater[0] == 1:
            for count in (1, 2, 3):
                self.assertLessEqual(lesser[count], greater[count])
        if lesser[0] == 1 and lesser[4] == 0:
            self.assertEqual(greater, lesser)
            self.assertEqual(trouble_after, trouble_before)


class Situations(unittest.TestCase):
    def test_the_same_and_perhaps_more(self):
        compared = 0
        for texts in companies():
            play = play_of([part_of(codes(text)) for text in texts])
            found = [explored(play, k) for k in BOUNDS]
            for lesser, greater in zip(found, found[1:]):
                if lesser.trouble is None and greater.trouble is None and not greater.too_many:
                    self.assertFalse(lesser.too_many)
                    self.assertLessEqual(marks(lesser), marks(greater))
                    compared += 1
        self.assertGreater(compared, 100)

    def test_where_nobody_was_held_up_nothing_changes(self):
        for texts in companies():
            play = play_of([part_of(codes(text)) for text in texts])
            found = [explored(play, k) for k in BOUNDS]
            for lesser, greater in zip(found, found[1:]):
                if lesser.held_up_total == 0:
                    self.assertEqual([one.mark() for one in lesser.situations],
                                     [one.mark() for one in greater.situations])
                    self.assertEqual(lesser.trouble is None, greater.trouble is None)

    def test_no_queue_has_more_messages_than_the_bound(self):
        for texts in companies():
            play = play_of([part_of(codes(text)) for text in texts])
            for k in BOUNDS:
                for situation in explored(play, k).situations:
                    self.assertLessEqual(max([0] + [len(row) for row in situation.waiting]), k)


if __name__ == "__main__":
    unittest.main()
