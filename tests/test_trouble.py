"""trouble: each one with its workers and label, their order, and the way."""

import unittest

from tests.helper import Second, ask_company, explore, mixed_company, one, part, text_of, trouble, way

NONE = [0]


class Worked(unittest.TestCase):
    A = "part P of A start S S = send A -> B { a(num 1 3) T } T = recv A <- B { c() E } E = stop"
    B = "part P of B start S S = send B -> A { c() T } T = recv B <- A { a(num 0 9) E } E = stop"

    def test_none(self):
        self.assertEqual(one([self.A, self.B], trouble(1)), [-5])

    def test_a_message_that_cannot_be_taken(self):
        given = one([self.A, self.B.replace("num 0 9", "num 2 9")], trouble(1))
        self.assertEqual(given, [2, 1, 1, 1, 97, 2, 0, 1, 1, 97, 1, 1, 1, 99])

    def test_a_standstill(self):
        given = one([self.A, "part P of B start S S = recv B <- A { a(num 0 9) E } E = stop"], trouble(1))
        self.assertEqual(given, [1, 0, 0, 0, 2, 0, 1, 1, 97, 1, 2, 1, 97])


class Standstill(unittest.TestCase):
    def test_the_first_worker_that_does_not_stand_at_a_stop(self):
        stop, wait = part("A", "S = stop"), part("B", "S = recv B <- A { a() S }")
        other = part("C", "S = recv C <- A { a() S }")
        self.assertEqual(one([wait], trouble(1)), [1, 0, 0] + NONE + way())
        self.assertEqual(one([stop, wait], trouble(1)), [1, 1, 1] + NONE + way())
        self.assertEqual(one([stop, other, wait], trouble(8)), [1, 1, 1] + NONE + way())

    def test_not_while_somebody_is_held_up(self):
        workers = [part("A", "S = send A -> B { a() S }"), part("B", "S = recv B <- C { c() S }")]
        self.assertEqual(ask_company(workers, trouble(1), explore(2)), [[-5], [1, 3, 2, 2, 1]])

    def test_something_may_wait(self):
        workers = [part("A", "S = send A -> B { a() E }", "E = stop"), part("B", "S = recv B <- C { c() S }")]
        self.assertEqual(one(workers, trouble(1)), [1, 1, 1] + NONE + way("0!a"))

    def test_not_while_one_can_move(self):
        workers = [part("A", "S = recv A <- Z { a() S }"), part("B", "S = send C -> D { c() T }",
                                                                 "T = recv D <- C { c() S }")]
        self.assertEqual(one(workers, trouble(1)), [-5])


class Surprise(unittest.TestCase):
    def test_another_label(self):
        pair = [part("A", "S = send A -> B { abc() S }"), part("B", "S = recv B <- A { ab() S ; abcd() S }")]
        self.assertEqual(one(pair, trouble(1)), [2, 1, 1, 3, 97, 98, 99] + way("0!abc"))

    def test_only_the_oldest_message_counts(self):
        pair = [part("A", "S = send A -> B { a() T }", "T = send A -> B { b() E }", "E = stop"),
                part("B", "S = recv B <- A { a() T }", "T = recv B <- A { b() E }", "E = stop")]
        self.assertEqual(one(pair, trouble(2)), [-5])
        pair[1] = part("B", "S = recv B <- A { a() T }", "T = recv B <- A { c() E }", "E = stop")
        self.assertEqual(one(pair, trouble(2)), [2, 1, 1, 1, 98] + way("0!a", "0!b", "1?a"))
        self.assertEqual(one(pair, trouble(1)), [2, 1, 1, 1, 98] + way("0!a", "1?a", "0!b"))

    def test_the_first_of_several_workers(self):
        """The last move surprises the one that makes it, who comes to m, and the one that hears it."""
        mover = part("A", "R = recv A <- U { g() S }", "S = send A -> B { x() T }", "T = recv D <- C { z() E }", "E = stop")
        helper = part("U", "S = send C -> D { m() T }", "T = send U -> A { g() E }", "E = stop")
        hearer = part("V", "S = recv B <- A { y() E }", "E = stop")
        self.assertEqual(one([mover, helper, hearer], trouble(1)), [2, 0, 0, 1, 109] + way("1!m", "1!g", "0?g", "0!x"))
        self.assertEqual(one([hearer, helper, mover], trouble(1)), [2, 0, 0, 1, 120] + way("1!m", "1!g", "2?g", "2!x"))

    def test_before_rivals(self):
        workers = [part("A", "S = recv B <- A { a() E }", "E = stop"),
                   part("B", "S = send A -> B { x() T }", "T = recv B <- A { x() E }", "E = stop")]
        self.assertEqual(one(workers, trouble(1)), [2, 0, 0, 1, 120] + way("1!x"))

    def test_of_a_greater_worker_before_rivals_of_lesser_ones(self):
        workers = [part("A", "S = send A -> B { x() T }", "T = recv D <- C { a() E }", "E = stop"),
                   part("B", "S = recv D <- C { a() E }", "E = stop"),
                   part("C", "S = recv B <- A { y() E }", "E = stop")]
        self.assertEqual(one(workers, trouble(1)), [2, 2, 2, 1, 120] + way("0!x"))

    def test_in_the_middle_of_other_moves(self):
        workers = [part("A", "S = send A -> B { x() S }"), part("B", "S = recv B <- A { y() S }"),
                   part("C", "S = send C -> D { c() S }"), part("D", "S = recv D <- C { c() S }")]
        self.assertEqual(one(workers, trouble(1)), [2, 1, 1, 1, 120] + way("0!x"))


class Rivals(unittest.TestCase):
    @staticmethod
    def hearers(*routes):
        return [part(f"W{n}", f"S = recv {y} <- {x} {{ a() S }}") for n, (x, y) in enumerate(routes)]

    def test_at_the_same_seats(self):
        self.assertEqual(one(self.hearers("AB", "AB"), trouble(1)), [3, 0, 1] + NONE + way())
        self.assertEqual(one(self.hearers("AB", "AB", "AB"), trouble(1)), [3, 0, 1] + NONE + way())

    def test_both_seats_count(self):
        self.assertEqual(one(self.hearers("AB", "BA", "AC", "CB"), trouble(1)), [1, 0, 0] + NONE + way())

    def test_the_first_worker_that_has_a_rival(self):
        self.assertEqual(one(self.hearers("AB", "CD", "CD"), trouble(1)), [3, 1, 2] + NONE + way())
        self.assertEqual(one(self.hearers("AB", "CD", "CD", "AB"), trouble(1)), [3, 0, 3] + NONE + way())
        self.assertEqual(one(self.hearers("AB", "CD", "EF", "CD", "EF"), trouble(1)), [3, 1, 3] + NONE + way())
        self.assertEqual(one(self.hearers("AB", "CD", "AB", "CD", "AB"), trouble(1)), [3, 0, 2] + NONE + way())

    def test_senders_are_no_rivals(self):
        workers = [part("A", "S = send A -> B { a() S }"), part("B", "S = send A -> B { a() S }"),
                   part("C", "S = recv B <- A { a() S }")]
        self.assertEqual(one(workers, trouble(1)), [-5])

    def test_even_if_something_waits_that_both_could_take(self):
        workers = [part("A", "S = send A -> B { a() S }"), part("B", "S = send X -> Y { b() T }",
                                                                 "T = recv B <- A { a() T }"),
                   part("C", "S = recv Y <- X { b() T }", "T = recv B <- A { a() T }")]
        self.assertEqual(one(workers, trouble(1)), [3, 1, 2] + NONE + way("1!b", "2?b"))

    def test_before_a_standstill(self):
        workers = [part("S", "S = stop")] + self.hearers("CD", "AB", "AB")
        self.assertEqual(one(workers, trouble(1)), [3, 2, 3] + NONE + way())


class LeftOver(unittest.TestCase):
    def test_one_message(self):
        self.assertEqual(one([part("A", "S = send A -> B { a() E }", "E = stop")], trouble(1)),
                         [4, 0, 0, 1, 97] + way("0!a"))

    def test_told_with_the_workers_0_and_0(self):
        workers = [part("Z", "S = stop"), part("A", "S = send A -> B { word() E }", "E = stop"), part("Y", "S = stop")]
        self.assertEqual(one(workers, trouble(1)), [4, 0, 0, 4, 119, 111, 114, 100] + way("1!word"))

    def test_the_oldest_one(self):
        worker = part("A", "S = send A -> B { b() T }", "T = send A -> B { a() E }", "E = stop")
        self.assertEqual(one([worker], trouble(2)), [4, 0, 0, 1, 98] + way("0!b", "0!a"))
        self.assertEqual(one([worker], trouble(1)), [-5])

    def test_the_first_two_seats(self):
        for routes, first in ((("BA", "AC", "AB"), "m2"), (("CA", "BZ", "BY"), "m2"), (("AB", "BA"), "m0"),
                              ((("a", "Z"), ("Z", "a")), "m1"), ((("AA", "A"), ("A", "Z")), "m1"),
                              ((("A", "BB"), ("A", "B")), "m1"), ((("A", "b"), ("A", "B")), "m1"),
                              ((("A1", "B"), ("A", "Z"), ("AB", "B")), "m1"), ((("A", "aa"), ("A", "B9")), "m1"),
                              ((("Ab", "B"), ("A1", "B")), "m1")):
            states = [f"S{n} = send {x} -> {y} {{ m{n}() S{n + 1} }}" for n, (x, y) in enumerate(routes)]
            worker = part("W", *states, f"S{len(routes)} = stop")
            path = [f"0!m{n}" for n in range(len(routes))]
            self.assertEqual(one([worker], trouble(1)), [4, 0, 0, 2, 109, ord(first[1])] + way(*path), routes)

    def test_not_before_all_stand_at_a_stop(self):
        workers = [part("A", "S = send A -> B { a() E }", "E = stop"),
                   part("B", "S = send C -> D { c() T }", "T = recv D <- C { c() E }", "E = stop")]
        self.assertEqual(one(workers, trouble(1)), [4, 0, 0, 1, 97] + way("0!a", "1!c", "1?c"))

    def test_nothing_left_over(self):
        pair = [part("A", "S = send A -> B { a() E }", "E = stop"), part("B", "S = recv B <- A { a() E }", "E = stop")]
        self.assertEqual(ask_company(pair, explore(1), trouble(1)), [[1, 3, 2, 1, 0], [-5]])


class Ways(unittest.TestCase):
    def test_labels_are_tried_by_their_bytes(self):
        for written, first in (("b a c", "a"), ("a A", "A"), ("ab a", "a"), ("a ab", "a"), ("ab aa", "aa"),
                               ("b ab", "ab"), ("aB a1", "a1"), ("ab aB", "aB"), ("a Z z9 Za", "Z"), ("abc abb1", "abb1")):
            branches = " ; ".join(f"{name}() E" for name in written.split())
            worker = part("A", f"S = send A -> B {{ {branches} }}", "E = stop")
            told = [4, 0, 0, len(first)] + [ord(letter) for letter in first]
            self.assertEqual(one([worker], trouble(1)), told + way("0!" + first), written)

    def test_the_shortest_way_is_told_though_its_label_comes_later(self):
        worker = part("A", "S = send A -> B { a() T ; z() E }", "T = send A -> C { b() E }", "E = stop")
        self.assertEqual(one([worker], trouble(1)), [4, 0, 0, 1, 122] + way("0!z"))

    def test_lesser_workers_move_first(self):
        workers = [part("A", "S = send A -> B { z() E }", "E = stop"), part("B", "S = send B -> A { a() E }", "E = stop")]
        self.assertEqual(one(workers, trouble(1)), [4, 0, 0, 1, 122] + way("0!z", "1!a"))
        self.assertEqual(one(workers[::-1], trouble(1)), [4, 0, 0, 1, 122] + way("0!a", "1!z"))

    def test_the_first_move_by_which_a_situation_was_put_there(self):
        worker = part("A", "S = send A -> B { b() T ; a() U }", "T = recv B <- A { b() V }", "U = recv B <- A { a() V }",
                      "V = recv A <- B { c() V }")
        self.assertEqual(one([worker], trouble(1)), [1, 0, 0] + NONE + way("0!a", "0?a"))

    def test_empty_way(self):
        self.assertEqual(one([part("A", "S = recv A <- B { a() S }")], trouble(1)), [1, 0, 0, 0, 0])

    def test_long_labels(self):
        name = "abcdefghijklmno9"
        told = [len(name)] + [ord(letter) for letter in name]
        self.assertEqual(one([part("A", f"S = send A -> B {{ {name}() E }}", "E = stop")], trouble(1)),
                         [4, 0, 0] + told + [1, 0, 1] + told)


class Promise2(unittest.TestCase):
    """A way is gone move by move, without trouble before its end, and there is no shorter one to any trouble."""

    def distance(self, second, k):
        """How many moves the nearest trouble is away."""
        level, seen, far = {second.first()}, {second.first()}, 0
        while not any(second.trouble(situation, k) for situation in level):
            level = {move[3] for situation in level for move in second.moves(situation, k)} - seen
            seen |= level
            far += 1
        return far

    def go(self, second, given, k):
        """The situations along the way that is told."""
        place = 4 + given[3]
        situation = second.first()
        along = [situation]
        for count in range(given[place]):
            here = place + 1
            length = given[here + 2]
            name = bytes(given[here + 3:here + 3 + length]).decode()
            wanted = (given[here], given[here + 1], name)
            fitting = [move[3] for move in second.moves(situation, k) if move[:3] == wanted]
            self.assertEqual(len(fitting), 1)
            situation = fitting[0]
            along.append(situation)
            place = here + 2 + length
        self.assertEqual(place + 1, len(given))
        return along

    def test_mixed_companies(self):
        gone = 0
        for seed in range(1000, 1150):
            company = mixed_company(seed)
            second = Second(company)
            for k in (1, 3):
                given = one([text_of(told) for told in company], trouble(k))
                if given[0] < 0:
                    continue
                gone += 1
                along = self.go(second, given, k)
                self.assertEqual(len(along) - 1, self.distance(second, k))
                self.assertTrue(all(second.trouble(situation, k) is None for situation in along[:-1]))
                name = bytes(given[4:4 + given[3]]).decode()
                self.assertEqual(second.trouble(along[-1], k), (given[0], given[1], given[2], name))
        self.assertGreater(gone, 100)


if __name__ == "__main__":
    unittest.main()
