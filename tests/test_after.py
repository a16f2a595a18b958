"""after: the trouble and the moves of the situation to which a walk comes."""

import unittest

from tests.helper import HUGE, Numbers, Second, after, ask, ask_company, explore, mixed_company, one, part, text_of, way

A = "part P of A start S S = send A -> B { a(num 1 3) T } T = recv A <- B { c() E } E = stop"
B = "part P of B start S S = send B -> A { c() T } T = recv B <- A { a(num 0 9) E } E = stop"


class Bounds(unittest.TestCase):
    def test_2_outside_1_to_8(self):
        for k in (0, 9, -1, 10, HUGE, -HUGE):
            for numbers in ([], [0], [5, -5, HUGE], [0] * 2000):
                self.assertEqual(ask(after(k, numbers)), [[-2]])
                self.assertEqual(ask_company([A, B], after(k, numbers), explore(1)), [[-2], [1, 7, 8, 1, 0]])

    def test_2_before_all_else(self):
        wait = part("A", "S = recv A <- B { a() S }")
        self.assertEqual(ask_company([wait], after(9, [1]), after(8, [1])), [[-2], [1, 0]])

    def test_1_to_8(self):
        shouter = part("A", "S = send A -> B { a() S }")
        for k in range(1, 9):
            self.assertEqual(one([shouter], after(k, [0] * (k - 1))), [0] + way("0!a"))
            self.assertEqual(one([shouter], after(k, [0] * k)), [0] + way())


class WhereOneComesTo(unittest.TestCase):
    def test_worked(self):
        self.assertEqual(one([A, B], after(1)), [0, 2, 0, 1, 1, 97, 1, 1, 1, 99])
        self.assertEqual(one([A, B], after(1, [0])), [0] + way("1!c"))
        self.assertEqual(one([A, B], after(1, [0, 0])), [0] + way("0?c", "1?a"))
        self.assertEqual(one([A, B], after(1, [0, 0, 1])), [0] + way("0?c"))
        self.assertEqual(one([A, B], after(1, [0, 0, 1, 0])), [0] + way())

    def test_no_workers(self):
        for numbers in ([], [0], [HUGE, -1], [7] * 2000):
            self.assertEqual(ask(after(1, numbers), after(8, numbers)), [[0, 0], [0, 0]])

    def test_the_remainder_from_0_on(self):
        worker = part("A", "S = send A -> B { a() T ; b() U ; c() V }", "T = send A -> C { at() E }",
                      "U = send A -> C { bt() E }", "V = send A -> C { ct() E }", "E = stop")
        for number, name in ((0, "at"), (1, "bt"), (2, "ct"), (3, "at"), (-1, "ct"), (-2, "bt"), (-3, "at"),
                             (HUGE, "bt"), (-HUGE, "ct")):
            self.assertEqual(one([worker], after(1, [number])), [0] + way("0!" + name), number)

    def test_2000_numbers(self):
        pair = [part("A", "S = send A -> B { a() T }", "T = send A -> B { b() S }"),
                part("B", "S = recv B <- A { a() T }", "T = recv B <- A { b() S }")]
        self.assertEqual(one(pair, after(1, [HUGE] * 2000)), [0] + way("0!a"))
        self.assertEqual(one(pair, after(1, [-HUGE] * 1999)), [0] + way("1?b"))
        self.assertEqual(one(pair, after(3, [0] * 2000)), [0] + way("0!b", "1?b"))

    def test_at_the_lists_end_and_not_further(self):
        shouter = part("A", "S = send A -> B { a() T }", "T = send A -> B { b() U }", "U = send A -> B { c() U }")
        found = [one([shouter], after(3, [0] * count)) for count in range(5)]
        self.assertEqual(found, [[0] + way("0!a"), [0] + way("0!b"), [0] + way("0!c"), [0] + way(), [0] + way()])


class Troubles(unittest.TestCase):
    def test_a_standstill(self):
        texts = [A, "part P of B start S S = recv B <- A { a(num 0 9) E } E = stop"]
        self.assertEqual([one(texts, after(1, [0] * count)) for count in range(4)],
                         [[0] + way("0!a"), [0] + way("1?a"), [1] + way(), [1] + way()])

    def test_a_message_that_cannot_be_taken(self):
        texts = [A, B.replace("num 0 9", "num 2 9")]
        self.assertEqual(one(texts, after(1, [0])), [0] + way("1!c"))
        self.assertEqual(one(texts, after(1, [0, 0])), [2] + way("0?c"))
        self.assertEqual(one(texts, after(1, [0, 0, 0])), [2] + way("0?c"))

    def test_rivals(self):
        texts = [part("A", "S = send A -> B { a() S }"), part("B", "S = send C -> D { b() T }", "T = recv B <- A { a() S }"),
                 part("C", "S = recv B <- A { a() S }")]
        self.assertEqual(one(texts, after(2, [0])), [0] + way("0!a", "1!b", "2?a"))
        self.assertEqual(one(texts, after(2, [1])), [3] + way("0!a"))
        self.assertEqual(one(texts, after(2, [0, 1])), [3] + way("0!a", "1?a", "2?a"))
        self.assertEqual(one(texts, after(2, [0, 1, 0, 0])), [3] + way("0!a", "1?a", "2?a"))
        self.assertEqual(one(texts, after(1, [0, 0])), [3] + way("1?a", "2?a"))

    def test_messages_left_over(self):
        text = part("A", "S = send A -> B { a() E }", "E = stop")
        self.assertEqual(one([text], after(1, [0])), [4] + way())
        self.assertEqual(one([text], after(1, [0] * 9)), [4] + way())

    def test_in_the_first_situation(self):
        rivals = [part("A", "S = recv X <- Y { a() S }"), part("B", "S = recv X <- Y { a() S }"),
                  part("C", "S = send Y -> X { c() S ; b() S }")]
        for numbers in ([], [0], [1, 1, 1]):
            self.assertEqual(one(rivals, after(1, numbers)), [3] + way("2!b", "2!c"))
            self.assertEqual(one(rivals[:1], after(1, numbers)), [1] + way())

    def test_none_where_all_have_stopped_and_nothing_waits(self):
        self.assertEqual(one([part("A", "S = stop")], after(1, [3])), [0] + way())

    def test_none_where_everybody_is_held_up(self):
        texts = [part("A", "S = send A -> B { a() S }"), part("B", "S = send B -> A { b() S }"),
                 part("C", "S = recv C <- A { c() S }")]
        self.assertEqual(one(texts, after(1, [0, 0])), [0] + way())
        self.assertEqual(one(texts, after(1, [0] * 9)), [0] + way())
        self.assertEqual(one(texts, after(2, [0, 0])), [0] + way("1!b"))

    def test_the_first_trouble_of_several(self):
        """Somebody is surprised, and others are rivals."""
        texts = [part("A", "S = recv D <- C { a() S }"), part("B", "S = send A -> B { x() T }", "T = recv D <- C { a() T }"),
                 part("C", "S = recv B <- A { y() S }")]
        self.assertEqual(one(texts, after(1, [0])), [2] + way())


class Moves(unittest.TestCase):
    def test_by_workers_then_by_labels(self):
        texts = [part("Z", "S = send Z -> X { z() S ; y() S ; y1() S ; Y() S }"),
                 part("A", "S = send A -> X { b() S ; ab() S ; a() S }")]
        self.assertEqual(one(texts, after(1)), [0] + way("0!Y", "0!y", "0!y1", "0!z", "1!a", "1!ab", "1!b"))
        self.assertEqual(one(texts[::-1], after(1)), [0] + way("0!a", "0!ab", "0!b", "1!Y", "1!y", "1!y1", "1!z"))

    def test_one_that_hears_has_one_move(self):
        texts = [part("A", "S = send A -> B { b() S ; a() S }"), part("B", "S = recv B <- A { a() S ; b() S }")]
        self.assertEqual(one(texts, after(2)), [0] + way("0!a", "0!b"))
        self.assertEqual(one(texts, after(2, [1])), [0] + way("0!a", "0!b", "1?b"))
        self.assertEqual(one(texts, after(2, [1, 0])), [0] + way("1?b"))
        self.assertEqual(one(texts, after(2, [1, 0, 0])), [0] + way("0!a", "0!b", "1?a"))

    def test_one_that_is_held_up_has_none(self):
        texts = [part("A", "S = send X -> Y { a() S }"), part("B", "S = send X -> Y { b() S }"),
                 part("C", "S = send X -> Z { c() S }")]
        self.assertEqual(one(texts, after(1, [0])), [0] + way("2!c"))
        self.assertEqual(one(texts, after(1, [2])), [0] + way("0!a", "1!b"))
        self.assertEqual(one(texts, after(2, [0])), [0] + way("0!a", "1!b", "2!c"))

    def test_one_that_stops_or_waits_has_none(self):
        texts = [part("A", "S = stop"), part("B", "S = recv B <- C { a() S }"), part("C", "S = send C -> B { a() S }")]
        self.assertEqual(one(texts, after(1)), [0] + way("2!a"))
        self.assertEqual(one(texts, after(1, [0])), [0] + way("1?a"))

    def test_labels_with_their_lengths(self):
        name = "abcdefghijklmno9"
        told = [16] + [ord(letter) for letter in name]
        text = part("A", f"S = send A -> B {{ {name}(flag)[Q] T }}", f"T = recv B <- A {{ {name}(flag)[Q] S }}")
        self.assertEqual(one([text], after(1)), [0, 1, 0, 1] + told)
        self.assertEqual(one([text], after(1, [0])), [0, 1, 0, 2] + told)

    def test_of_8_workers_with_16_branches(self):
        labels = [f"a{number:02}" for number in range(16)]
        texts = [part(f"W{n}", f"S = send W{n} -> X {{ {' ; '.join(f'{name}() S' for name in labels[::-1])} }}")
                 for n in range(8)]
        self.assertEqual(one(texts, after(8)), [0] + way(*[f"{n}!{name}" for n in range(8) for name in labels]))


class AgainstTheSecondTelling(unittest.TestCase):
    def test_mixed_companies(self):
        met = {}
        for seed in range(5000, 5300):
            company, numbers = mixed_company(seed), Numbers(seed)
            second, calls, wanted = Second(company), [], []
            for count in range(12):
                k = 1 + numbers.below(8)
                row = [numbers.below(2 * HUGE + 1) - HUGE for step in range(numbers.below(30))]
                calls.append(after(k, row))
                wanted.append(second.after_answer(k, row))
            given = ask_company([text_of(told) for told in company], *calls)
            self.assertEqual(given, wanted, seed)
            for answer in given:
                met[answer[0]] = met.get(answer[0], 0) + 1
        for number in range(5):
            self.assertGreater(met.get(number, 0), 50, met)


if __name__ == "__main__":
    unittest.main()
