"""walk: how many moves are made, where everybody stands, and what waits."""

import unittest

from tests.helper import (HUGE, Numbers, Second, ask, ask_company, enough, explore, mixed_company, one, part, text_of,
                          waits, walk)

A = "part P of A start S S = send A -> B { a(num 1 3) T } T = recv A <- B { c() E } E = stop"
B = "part P of B start S S = send B -> A { c() T } T = recv B <- A { a(num 0 9) E } E = stop"

OUTSIDE = (0, 9, -1, 10, HUGE, -HUGE)


def chooser(*labels):
    """A worker that sends one message and stands then at the state whose number is its label's place, plus 1."""
    branches = " ; ".join(f"{name}() E{number}" for number, name in enumerate(labels))
    return part("A", f"S = send A -> B {{ {branches} }}", *[f"E{number} = stop" for number in range(len(labels))])


def sender(*routes):
    """A worker that sends m0, m1 .. along these routes and stops."""
    states = [f"S{n} = send {x} -> {y} {{ m{n}() S{n + 1} }}" for n, (x, y) in enumerate(routes)]
    return part("W", *states, f"S{len(routes)} = stop")


class Bounds(unittest.TestCase):
    def test_2_outside_1_to_8(self):
        for k in OUTSIDE:
            for numbers in ([], [0], [5, -5, HUGE], [0] * 2000):
                self.assertEqual(ask(walk(k, numbers)), [[-2]])
                self.assertEqual(ask_company([A, B], walk(k, numbers), explore(1)), [[-2], [1, 7, 8, 1, 0]])

    def test_2_before_all_else(self):
        wait = part("A", "S = recv A <- B { a() S }")
        self.assertEqual(ask_company([wait], walk(0, [1]), walk(1, [1])), [[-2], [0, 0, 0]])

    def test_1_to_8(self):
        shouter = part("A", "S = send A -> B { a() S }")
        for k in range(1, 9):
            self.assertEqual(one([shouter], walk(k, [0] * 20)), [k, 0] + waits("A>B" + " a" * k))
            self.assertEqual(one([A, B], walk(k, [0, 0, 1])), [3, 1, 2] + waits("B>A c"))


class WhichMove(unittest.TestCase):
    def test_worked(self):
        self.assertEqual(one([A, B], walk(1, [0, 0, 1])), [3, 1, 2, 1, 1, 66, 1, 65, 1, 1, 99])

    def test_none(self):
        self.assertEqual(one([A, B], walk(1, [])), [0, 0, 0, 0])
        self.assertEqual(one(["part P of A start T S = stop T = send A -> B { a() S }"], walk(1)), [0, 1, 0])

    def test_no_workers(self):
        for numbers in ([], [0], [HUGE, -1], [7] * 2000):
            self.assertEqual(ask(walk(1, numbers), walk(8, numbers)), [[0, 0], [0, 0]])

    def test_the_remainder_from_0_on(self):
        text = chooser("a", "b", "c")
        for number, move in ((0, 0), (1, 1), (2, 2), (3, 0), (4, 1), (-1, 2), (-2, 1), (-3, 0), (-4, 2), (-5, 1),
                             (HUGE, 1), (-HUGE, 2), (HUGE - 1, 0), (1 - HUGE, 0), (HUGE - 2, 2), (2 - HUGE, 1)):
            self.assertEqual(one([text], walk(1, [number])), [1, 1 + move] + waits("A>B " + "abc"[move]), number)

    def test_the_remainder_by_each_count_of_moves(self):
        for count in range(1, 17):
            labels = [f"a{number:02}" for number in range(count)]
            for number in (-HUGE, -17, -1, 0, 1, 15, 16, 17, HUGE):
                place = number - number // count * count
                self.assertEqual(one([chooser(*labels)], walk(1, [number])),
                                 [1, 1 + place] + waits("A>B " + labels[place]), (count, number))

    def test_moves_in_the_order_of_labels(self):
        text = chooser("b", "ab", "B", "a", "a1", "aB")
        order = ["B", "a", "a1", "aB", "ab", "b"]
        for number, name in enumerate(order):
            state = 1 + ["b", "ab", "B", "a", "a1", "aB"].index(name)
            self.assertEqual(one([text], walk(1, [number])), [1, state] + waits("A>B " + name))

    def test_moves_by_workers_first(self):
        texts = [part("A", "S = send A -> X { z() E ; y() E }", "E = stop"),
                 part("B", "S = send B -> X { b() E ; a() E }", "E = stop")]
        found = [one(texts, walk(1, [number])) for number in range(4)]
        self.assertEqual(found, [[1, 1, 0] + waits("A>X y"), [1, 1, 0] + waits("A>X z"),
                                 [1, 0, 1] + waits("B>X a"), [1, 0, 1] + waits("B>X b")])

    def test_each_number_is_held_against_the_moves_there_and_then(self):
        """Two moves at first, then three, then one."""
        text = part("A", "S = send A -> X { a() T ; b() E }", "T = send A -> Y { c() E ; d() U ; e() E }",
                    "U = send A -> Z { f() E }", "E = stop")
        self.assertEqual(one([text], walk(1, [4, 4, 4, 4])), [3, 3] + waits("A>X a", "A>Y d", "A>Z f"))
        self.assertEqual(one([text], walk(1, [-2, -2, -2])), [3, 3] + waits("A>X a", "A>Y d", "A>Z f"))
        self.assertEqual(one([text], walk(1, [4, 5])), [2, 3] + waits("A>X a", "A>Y e"))

    def test_2000_numbers(self):
        pair = [part("A", "S = send A -> B { a() T }", "T = send A -> B { b() S }"),
                part("B", "S = recv B <- A { a() T }", "T = recv B <- A { b() S }")]
        self.assertEqual(one(pair, walk(1, [0] * 2000)), [2000, 0, 0] + waits())
        self.assertEqual(one(pair, walk(1, [0] * 1999)), [1999, 0, 1] + waits("A>B b"))
        # Three are sent, and then one is heard and one sent in turn: 1001 sent and 999 heard.
        self.assertEqual(one(pair, walk(3, [HUGE] * 2000)), [2000, 1, 1] + waits("A>B b a"))
        self.assertEqual(one(pair, walk(8, [-HUGE] * 2000)), [2000, 0, 0] + waits("A>B" + " a b" * 4))

    def test_2000_numbers_with_many_moves(self):
        labels = " ; ".join(f"a{number:02}() T" for number in range(16))
        texts = [part(f"W{n}", f"S = send W{n} -> X {{ {labels} }}", f"T = recv X <- W{n} {{ {labels.replace('T', 'S')} }}")
                 for n in range(8)]
        given = one(texts, walk(8, [0] * 2000))
        self.assertEqual(given, [2000] + [0] * 8 + waits())


class Stops(unittest.TestCase):
    def test_at_a_message_that_cannot_be_taken(self):
        texts = [part("A", "S = send A -> B { x() S }"), part("B", "S = recv B <- A { y() S }")]
        self.assertEqual(one(texts, walk(2, [0] * 5)), [1, 0, 0] + waits("A>B x"))

    def test_at_rivals(self):
        texts = [part("A", "S = send A -> B { a() S }"), part("B", "S = send C -> D { b() T }", "T = recv B <- A { a() S }"),
                 part("C", "S = recv B <- A { a() S }")]
        self.assertEqual(one(texts, walk(8, [0, 0, 1, 0, 0])), [3, 0, 1, 0] + waits("A>B a a", "C>D b"))
        self.assertEqual(one(texts, walk(8, [0, 0, 2, 0, 0])), [5, 0, 0, 0] + waits("A>B a a a"))
        self.assertEqual(one(texts, walk(8, [1, 0, 0])), [1, 0, 1, 0] + waits("C>D b"))

    def test_at_messages_left_over(self):
        self.assertEqual(one([sender("AB", "AB")], walk(2, [0] * 5)), [2, 2] + waits("A>B m0 m1"))

    def test_at_a_standstill(self):
        texts = [A, "part P of B start S S = recv B <- A { a(num 0 9) E } E = stop"]
        self.assertEqual(one(texts, walk(1, [0] * 5)), [2, 1, 1] + waits())

    def test_at_trouble_in_the_first_situation(self):
        for texts, stands in (([part("A", "S = recv A <- B { a() S }")], [0]),
                              ([part("A", "S = recv X <- Y { a() S }"), part("B", "S = recv X <- Y { a() S }"),
                                part("C", "S = send Y -> X { a() S }")], [0, 0, 0])):
            self.assertEqual(one(texts, walk(1, [0, 1])), [0] + stands + waits())

    def test_where_all_have_stopped_and_nothing_waits(self):
        self.assertEqual(one([A, B], walk(1, [0, 0, 0, 0, 0, 0])), [4, 2, 2] + waits())
        self.assertEqual(one([part("A", "S = stop")], walk(1, [3])), [0, 0] + waits())

    def test_where_everybody_is_held_up(self):
        texts = [part("A", "S = send A -> B { a() S }"), part("B", "S = send B -> A { b() S }"), part("C", "S = stop")]
        self.assertEqual(one(texts, walk(1, [0] * 9)), [2, 0, 0, 0] + waits("A>B a", "B>A b"))
        self.assertEqual(one(texts, walk(2, [0] * 9)), [4, 0, 0, 0] + waits("A>B a a", "B>A b b"))

    def test_at_the_lists_end(self):
        for count in range(5):
            self.assertEqual(one([A, B], walk(1, [0] * count))[0], count)
        shouter = part("A", "S = send A -> B { a() S }")
        for count in range(9):
            self.assertEqual(one([shouter], walk(8, [1] * count)), [count, 0] + waits(*["A>B" + " a" * count] * (count > 0)))

    def test_not_where_there_are_too_many(self):
        labels = " ; ".join(f"a{number:02}() S" for number in range(16))
        texts = [part(f"W{n}", f"S = send W{n} -> X {{ {labels} }}") for n in range(8)]
        given = ask_company(texts, explore(8), walk(8, [0] * 100))
        self.assertEqual(given, [[-6], [64] + [0] * 8 + waits(*[f"W{n}>X" + " a00" * 8 for n in range(8)])])

    def test_not_where_trouble_lies_beside_the_way(self):
        texts = [part("A", "S = send A -> B { a() S ; z() S }"), part("B", "S = recv B <- A { a() S }")]
        self.assertEqual(ask_company(texts, explore(1), walk(1, [0] * 50), walk(1, [0] * 50 + [1, 0])),
                         [[0], [50, 0, 0] + waits(), [51, 0, 0] + waits("A>B z")])


class States(unittest.TestCase):
    def test_by_their_numbers_in_the_order_of_the_text(self):
        text = "part P of A start T Z = stop T = send A -> B { a() S } A = stop S = send A -> C { b() Z }"
        self.assertEqual(one([text], walk(1)), [0, 1] + waits())
        self.assertEqual(one([text], walk(1, [0])), [1, 3] + waits("A>B a"))
        self.assertEqual(one([text], walk(1, [0, 0])), [2, 0] + waits("A>B a", "A>C b"))

    def test_of_each_worker_in_the_order_of_hiring(self):
        texts = [part(name, "S = stop", "T = stop", "U = stop").replace("start S", f"start {state}")
                 for name, state in (("C", "U"), ("A", "S"), ("B", "T"))]
        self.assertEqual(one(texts, walk(1)), [0, 2, 0, 1] + waits())

    def test_64_states(self):
        states = [f"S{n} = send A -> B {{ a() S{n + 1} }}" for n in range(63)] + ["S63 = stop"]
        hearer = [f"S{n} = recv B <- A {{ a() S{n + 1} }}" for n in range(63)] + ["S63 = stop"]
        texts = [part("A", *states), part("B", *hearer)]
        self.assertEqual(one(texts, walk(1, [0] * 125)), [125, 63, 62] + waits("A>B a"))
        self.assertEqual(one(texts, walk(1, [0] * 200)), [126, 63, 63] + waits())


class Queues(unittest.TestCase):
    def test_in_the_order_of_the_names_of_x_then_of_y(self):
        for routes, order in ((("BA", "AC", "AB"), (2, 1, 0)), (("CA", "BZ", "BY"), (2, 1, 0)), (("AB", "BA"), (0, 1)),
                              ((("a", "Z"), ("Z", "a")), (1, 0)), ((("AA", "A"), ("A", "Z")), (1, 0)),
                              ((("A", "BB"), ("A", "B")), (1, 0)), ((("A", "b"), ("A", "B")), (1, 0)),
                              ((("A1", "B"), ("A", "Z"), ("AB", "B")), (1, 0, 2)), ((("A", "aa"), ("A", "B9")), (1, 0)),
                              ((("Ab", "B"), ("A1", "B")), (1, 0)), ((("X", "Y10"), ("X", "Y9"), ("X", "Y1")), (2, 0, 1))):
            rows = [f"{routes[n][0]}>{routes[n][1]} m{n}" for n in order]
            self.assertEqual(one([sender(*routes)], walk(1, [0] * 9)), [len(routes), len(routes)] + waits(*rows), routes)

    def test_the_order_is_that_of_names_and_not_of_workers(self):
        texts = [part("Z", "S = send Z -> A { z() E }", "E = stop"), part("Y", "S = send B -> A { y() E }", "E = stop")]
        self.assertEqual(one(texts, walk(1, [0, 0])), [2, 1, 1] + waits("B>A y", "Z>A z"))

    def test_pairs_between_which_nothing_waits_are_left_out(self):
        worker = part("W", "S = send A -> B { a() T }", "T = send C -> D { c() U }", "U = recv B <- A { a() V }",
                      "V = send E -> F { e() S }")
        found = [one([worker], walk(1, [0] * count)) for count in range(5)]
        self.assertEqual(found, [[0, 0] + waits(), [1, 1] + waits("A>B a"), [2, 2] + waits("A>B a", "C>D c"),
                                 [3, 3] + waits("C>D c"), [4, 0] + waits("C>D c", "E>F e")])

    def test_several_messages_the_oldest_first(self):
        texts = [part("A", "S = send A -> B { a() S ; bb() S ; ccc() S }"), part("B", "S = recv B <- A { ccc() T }",
                                                                                "T = recv Z <- Y { z() T }")]
        self.assertEqual(one(texts, walk(8, [2, 1, 0, 1, 2])), [5, 0, 0] + waits("A>B ccc bb a bb ccc"))
        self.assertEqual(one(texts, walk(8, [2, 1, 0, 1, 2, 3])), [6, 0, 1] + waits("A>B bb a bb ccc"))
        self.assertEqual(one(texts, walk(3, [2, 1, 0, 0, 0])), [5, 0, 1] + waits("A>B bb a a"))

    def test_both_ways_between_two_seats(self):
        self.assertEqual(one([sender("BA", "AB")], walk(1, [0, 0])), [2, 2] + waits("A>B m1", "B>A m0"))

    def test_seats_that_are_no_workers_names(self):
        text = part("W", "S = send stand1 -> Stand { hello() T }", "T = recv Stand <- stand1 { hello() S }")
        self.assertEqual(one([text], walk(1, [0])), [1, 1] + waits("stand1>Stand hello"))
        self.assertEqual(one([text], walk(1, [0, 0])), [2, 0] + waits())

    def test_two_workers_at_one_queue(self):
        texts = [part("A", "S = send X -> Y { a() E }", "E = stop"), part("B", "S = send X -> Y { b() E }", "E = stop")]
        self.assertEqual(one(texts, walk(2, [1, 0])), [2, 1, 1] + waits("X>Y b a"))
        self.assertEqual(one(texts, walk(1, [1, 0])), [1, 0, 1] + waits("X>Y b"))

    def test_long_names(self):
        seat, other, name = "abcdefghijklmno1", "abcdefghijklmno2", "ABCDEFGHIJKLMNO9"
        text = part("A", f"S = send {seat} -> {other} {{ {name}(text 9)[Q] S }}")
        self.assertEqual(one([text], walk(2, [0, 0])), [2, 0] + waits(f"{seat}>{other} {name} {name}"))


class AgainstTheSecondTelling(unittest.TestCase):
    def test_mixed_companies(self):
        lengths = {}
        for seed in range(4000, 4200):
            company, numbers = mixed_company(seed), Numbers(seed)
            second, calls, wanted = Second(company), [], []
            for count in range(12):
                k = 1 + numbers.below(8)
                row = [numbers.below(2 * HUGE + 1) - HUGE for step in range(numbers.below(30))]
                calls.append(walk(k, row))
                wanted.append(second.walk_answer(k, row))
            calls.append(enough())
            wanted.append(second.enough())
            given = ask_company([text_of(told) for told in company], *calls)
            self.assertEqual(given, wanted, seed)
            for answer in given[:-1]:
                lengths[answer[0]] = lengths.get(answer[0], 0) + 1
        self.assertGreater(len(lengths), 20)


if __name__ == "__main__":
    unittest.main()
