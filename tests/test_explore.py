"""explore: how many situations, moves, waiting messages and held up situations there are."""

import unittest

from tests.helper import (HUGE, Second, ask, ask_company, explore, hire, mixed_company, one, part, text_of, trouble)

A = "part P of A start S S = send A -> B { a(num 1 3) T } T = recv A <- B { c() E } E = stop"
B = "part P of B start S S = send B -> A { c() T } T = recv B <- A { a(num 0 9) E } E = stop"


def ring(worker, branches):
    """A worker that sends one of so many messages and hears it again: one situation more than branches."""
    labels = [f"a{number}" for number in range(branches)]
    sends = " ; ".join(f"{label}() T{label}" for label in labels)
    seat = worker + "x"
    rests = [f"T{label} = recv {seat} <- {worker} {{ {label}() S }}" for label in labels]
    return part(worker, f"S = send {worker} -> {seat} {{ {sends} }}", *rests)


def chain(worker, sends):
    """A worker that sends so many messages, each to another seat, and stops."""
    states = [f"S{n} = send {worker} -> {worker}{n} {{ a{n}() S{n + 1} }}" for n in range(sends)]
    return part(worker, *states, f"S{sends} = stop")


class Bounds(unittest.TestCase):
    def test_2_outside_1_to_8(self):
        for k in (0, 9, -1, 10, HUGE, -HUGE):
            self.assertEqual(ask(explore(k), trouble(k)), [[-2], [-2]])
            self.assertEqual(ask_company([A, B], explore(k), trouble(k)), [[-2], [-2]])

    def test_2_before_all_else(self):
        self.assertEqual(ask_company([ring("A", 16), ring("B", 16), ring("C", 16)], explore(1), explore(0)), [[-6], [-2]])
        self.assertEqual(ask_company([part("A", "S = recv A <- B { a() S }")], explore(1), explore(9)), [[0], [-2]])

    def test_1_to_8(self):
        for k in range(1, 9):
            self.assertEqual(one([A, B], explore(k)), [1, 7, 8, 1, 0])


class Counts(unittest.TestCase):
    def test_worked(self):
        self.assertEqual(one([A, B], explore(1)), [1, 7, 8, 1, 0])
        self.assertEqual(one([A, B.replace("num 0 9", "num 2 9")], explore(1)), [0])
        self.assertEqual(one([A, "part P of B start S S = recv B <- A { a(num 0 9) E } E = stop"], explore(1)), [0])

    def test_no_workers(self):
        for k in range(1, 9):
            self.assertEqual(ask(explore(k), trouble(k)), [[1, 1, 0, 0, 0], [-5]])

    def test_only_stops(self):
        self.assertEqual(one([part("A", "S = stop"), part("B", "S = stop")], explore(3)), [1, 1, 0, 0, 0])

    def test_the_start_state_is_where_one_starts(self):
        text = "part P of A start T S = send A -> B { a() S } T = stop"
        self.assertEqual(one([text], explore(1)), [1, 1, 0, 0, 0])

    def test_held_up(self):
        sender = part("A", "S = send A -> B { a() S }")
        for k in range(1, 9):
            self.assertEqual(one([sender], explore(k)), [1, k + 1, k, k, 1])

    def test_situations_in_which_several_are_held_up_count_once(self):
        senders = [part("A", "S = send A -> B { a() S }"), part("C", "S = send A -> B { a() S }")]
        self.assertEqual(one(senders, explore(1)), [1, 2, 2, 1, 1])

    def test_a_queue_belongs_to_its_two_seats(self):
        senders = [part("A", "S = send A -> B { a() S }"), part("B", "S = send B -> A { a() S }")]
        self.assertEqual(one(senders, explore(1)), [1, 4, 4, 1, 3])

    def test_sender_and_receiver(self):
        pair = [part("A", "S = send A -> B { a() S }"), part("B", "S = recv B <- A { a() S }")]
        for k in range(1, 9):
            self.assertEqual(one(pair, explore(k)), [1, k + 1, 2 * k, k, 1])

    def test_handed_seats_make_situations_that_differ(self):
        for first, second, count in (("", "", 2), ("[X]", "[X]", 2), ("", "[X]", 3), ("[X, Y]", "[Y, X]", 3)):
            senders = [part("A", f"S = send L -> R {{ a(){first} S }}"),
                       part("B", f"S = send L -> R {{ a(){second} S }}")]
            self.assertEqual(one(senders, explore(1)), [1, count, 2, 1, count - 1])

    def test_ranges_make_situations_that_differ(self):
        for first, second, count in (("num 0 1", "num 0 1", 2), ("num 0 1", "num 0 2", 3), ("num 0 2", "num 1 2", 3),
                                     ("flag", "", 3), ("text 1", "text 2", 3), ("flag", "text 0", 3),
                                     ("num 0 1", "text 1", 3), ("flag, text 1", "text 1, flag", 3)):
            senders = [part("A", f"S = send L -> R {{ a({first}) S }}"),
                       part("B", f"S = send L -> R {{ a({second}) S }}")]
            self.assertEqual(one(senders, explore(1)), [1, count, 2, 1, count - 1])

    def test_ranges_within_one_another(self):
        taken = [("", ""), ("flag", "flag"), ("num 1 3", "num 1 3"), ("num 1 3", "num 0 9"), ("num 2 2", "num 1 3"),
                 ("text 5", "text 5"), ("text 5", "text 6"), ("text 0", "text 255"),
                 ("flag, num 1 2, text 3, flag", "flag, num 0 2, text 4, flag")]
        for inner, outer in taken:
            pair = [part("A", f"S = send A -> B {{ a({inner}) S }}"), part("B", f"S = recv B <- A {{ a({outer}) S }}")]
            self.assertEqual(one(pair, explore(1)), [1, 2, 2, 1, 1], (inner, outer))

    def test_ranges_that_do_not_lie_within(self):
        surprising = [("flag", ""), ("", "flag"), ("num 0 3", "num 1 3"), ("num 1 4", "num 1 3"), ("num 0 9", "num 1 3"),
                      ("text 6", "text 5"), ("flag", "num 0 1"), ("num 0 0", "flag"), ("num 0 5", "text 5"),
                      ("text 5", "num 0 5"), ("text 0", "flag"), ("flag", "text 0"),
                      ("flag, num 1 2", "num 1 2, flag"), ("flag, flag", "flag"), ("flag", "flag, flag")]
        for inner, outer in surprising:
            pair = [part("A", f"S = send A -> B {{ a({inner}) S }}"), part("B", f"S = recv B <- A {{ a({outer}) S }}")]
            self.assertEqual(ask_company(pair, explore(1), trouble(1)), [[0], [2, 1, 1, 1, 97, 1, 0, 1, 1, 97]],
                             (inner, outer))

    def test_handed_seats_are_the_same_list(self):
        for sent, asked, right in (("[X]", "[X]", True), ("[X, Y]", "[X, Y]", True), ("[X, Y]", "[Y, X]", False),
                                   ("[X]", "", False), ("", "[X]", False), ("[X, Y]", "[X]", False), ("[X]", "[x]", False)):
            pair = [part("A", f"S = send A -> B {{ a(){sent} S }}"), part("B", f"S = recv B <- A {{ a(){asked} S }}")]
            self.assertEqual(one(pair, explore(1)), [1, 2, 2, 1, 1] if right else [0], (sent, asked))


class TooMany(unittest.TestCase):
    def test_1000_situations_are_not_too_many(self):
        rings = [ring("A", 9), ring("B", 9), ring("C", 9)]
        self.assertEqual(ask_company(rings, explore(1), trouble(1)), [[1, 1000, 5400, 1, 0], [-5]])

    def test_1001_situations_are(self):
        rings = [ring("A", 6), ring("B", 10), ring("C", 12)]
        self.assertEqual(ask_company(rings, explore(1), trouble(1)), [[-6], [-6]])

    def test_trouble_in_the_last_of_1000(self):
        given = ask_company([chain("A", 9), chain("B", 9), chain("C", 9)], explore(1), trouble(1))
        path = [worker for worker in (0, 1, 2) for n in range(9)]
        moves = [number for place, worker in enumerate(path) for number in (worker, 1, 2, 97, 48 + place % 9)]
        self.assertEqual(given, [[0], [4, 0, 0, 2, 97, 48, 27] + moves])

    def test_trouble_in_the_last_of_1001_is_not_met(self):
        self.assertEqual(ask_company([chain("A", 6), chain("B", 10), chain("C", 12)], explore(1), trouble(1)),
                         [[-6], [-6]])

    def test_the_list_counts_and_not_how_far_one_has_come(self):
        """Trouble is told by the list's length when its situation is to be looked at."""
        labels = " ; ".join(f"a{number:02}() S" for number in range(16))
        workers = [part(f"W{n}", f"S = send W{n} -> Q {{ {labels} }}") for n in range(7)]
        early = workers + [part("W7", "S = recv Q <- W0 { z() S }")]
        late = workers + [part("W7", "S = recv Q <- W6 { z() S }")]
        told = [2, 7, 7, 3, 97, 48, 48, 1, 0, 1, 3, 97, 48, 48]
        self.assertEqual(ask_company(early, explore(1), trouble(1)), [[0], told])
        self.assertEqual(ask_company(late, explore(1), trouble(1)), [[-6], [-6]])


class AgainstTheSecondTelling(unittest.TestCase):
    def test_mixed_companies(self):
        met = {}
        for seed in range(300):
            company = mixed_company(seed)
            second = Second(company)
            texts = [text_of(told) for told in company]
            for k in (1, 2, 4, 8):
                given = ask_company(texts, explore(k), trouble(k))
                self.assertEqual(given, list(second.explore(k)), (seed, k))
                met[given[1][0]] = met.get(given[1][0], 0) + 1
        # Each outcome must have come about often, or the companies show too little.
        for outcome in (1, 2, 3, 4, -5, -6):
            self.assertGreater(met.get(outcome, 0), 20, outcome)


if __name__ == "__main__":
    unittest.main()
