"""enough: the least bound at which nobody is held up (promise 4)."""

import unittest

from tests.helper import (Numbers, Second, ask, ask_company, enough, explore, hire, mirrored, mixed_company, mixed_part,
                          one, part, text_of, trouble)

BOUNDS = range(1, 9)
NONE = [-5]

A = "part P of A start S S = send A -> B { a(num 1 3) T } T = recv A <- B { c() E } E = stop"
B = "part P of B start S S = send B -> A { c() T } T = recv B <- A { a(num 0 9) E } E = stop"


def burst(*sizes):
    """A worker that sends as many messages one behind another as each size tells, and hears one after each burst."""
    states = []
    for size in sizes:
        states += [("send", "L", "R")] * size + [("recv", "R", "L")]
    rows = [(f"S{n}", kind, x, y, [("a", [], [], f"S{n + 1}")]) for n, (kind, x, y) in enumerate(states)]
    return ("L", "S0", rows + [(f"S{len(states)}", "stop", "", "", [])])


def bursts(*sizes):
    told = burst(*sizes)
    return [text_of(told), text_of(mirrored(told, "R"))]


def shouter(worker, labels):
    """A worker that sends one of so many messages again and again."""
    branches = " ; ".join(f"a{number}() S" for number in range(labels))
    return part(worker, f"S = send {worker} -> {worker}x {{ {branches} }}")


def ring(worker, branches):
    """A worker that sends one of so many messages and hears it again."""
    sends = " ; ".join(f"a{n}() T{n}" for n in range(branches))
    rests = [f"T{n} = recv {worker}x <- {worker} {{ a{n}() S }}" for n in range(branches)]
    return part(worker, f"S = send {worker} -> {worker}x {{ {sends} }}", *rests)


def crossed(sends):
    """Two that send so many messages before they hear one that surprises them."""
    rows = []
    for me, you in (("A", "B"), ("B", "A")):
        states = [f"S{n} = send {me} -> {you} {{ a() S{n + 1} }}" for n in range(sends)]
        rows.append(part(me, *states, f"S{sends} = recv {me} <- {you} {{ x() S0 }}"))
    return rows


class Answers(unittest.TestCase):
    def test_worked(self):
        self.assertEqual(one([A, B], enough()), [1])

    def test_no_workers(self):
        self.assertEqual(ask(enough()), [[1]])

    def test_only_stops(self):
        self.assertEqual(one([part("A", "S = stop"), part("B", "S = stop")], enough()), [1])

    def test_each_bound(self):
        for size in BOUNDS:
            self.assertEqual(one(bursts(size), enough()), [size])

    def test_the_greatest_of_several(self):
        for sizes in ((1, 2), (2, 1), (3, 1, 2), (1, 1, 3), (1, 8), (7, 7), (0, 1), (2, 0, 4)):
            self.assertEqual(one(bursts(*sizes), enough()), [max(sizes)], sizes)

    def test_of_several_queues_each_counts(self):
        other = [text.replace("L", "X").replace("R", "Y") for text in bursts(3)]
        self.assertEqual(one(bursts(2) + other, enough()), [3])
        self.assertEqual(one(other + bursts(2), enough()), [3])
        self.assertEqual(one(other + bursts(4), enough()), [4])

    def test_a_full_queue_holds_nobody_up_who_does_not_send(self):
        worker = part("A", "S = send A -> B { a() T }", "T = recv B <- A { a() S }")
        self.assertEqual(ask_company([worker], explore(1), enough()), [[1, 2, 2, 1, 0], [1]])


class NotEnough(unittest.TestCase):
    def test_trouble_at_the_bound_1(self):
        for texts in ([A], [B, A.replace("num 1 3", "flag")], [part("A", "S = recv A <- B { a() S }")],
                      [part("A", "S = send A -> B { a() E }", "E = stop")],
                      [part("A", "S = recv X <- Y { a() S }"), part("B", "S = recv X <- Y { a() S }")]):
            self.assertEqual(ask_company(texts, explore(1), enough()), [[0], NONE])

    def test_trouble_at_a_later_bound_only(self):
        for sends in range(2, 9):
            given = ask_company(crossed(sends), *[explore(k) for k in BOUNDS], enough())
            # With a lesser bound both are held up for good, and with this one both hear what they cannot take.
            self.assertEqual([answer[0] for answer in given[:8]], [1] * (sends - 1) + [0] * (9 - sends))
            self.assertEqual(given[8], NONE)

    def test_too_many_at_the_bound_1(self):
        rings = [ring("A", 6), ring("B", 10), ring("C", 12)]
        self.assertEqual(ask_company(rings, explore(1), enough()), [[-6], NONE])

    def test_1000_are_not_too_many(self):
        rings = [ring("A", 9), ring("B", 9), ring("C", 9)]
        self.assertEqual(ask_company(rings, explore(1), enough()), [[1, 1000, 5400, 1, 0], [1]])

    def test_too_many_at_a_later_bound_only(self):
        given = ask_company([shouter("A", 16)], explore(1), explore(2), explore(3), enough())
        self.assertEqual(given, [[1, 17, 16, 1, 16], [1, 273, 272, 2, 256], [-6], NONE])

    def test_held_up_at_every_bound(self):
        given = ask_company([shouter("A", 1)], *[explore(k) for k in BOUNDS], enough())
        self.assertEqual(given, [[1, k + 1, k, k, 1] for k in BOUNDS] + [NONE])

    def test_a_bound_of_9_is_not_tried(self):
        self.assertEqual(one(bursts(9), enough()), NONE)
        self.assertEqual(one(bursts(2, 9), enough()), NONE)


class OnACompanyThatGrows(unittest.TestCase):
    def test_it_is_asked_anew(self):
        texts = bursts(3) + [shouter("Z", 1)]
        calls = [enough()]
        for text in texts:
            calls += [hire(text), enough(), enough()]
        self.assertEqual(ask(*calls), [[1], [1, 0], NONE, NONE, [1, 1], [3], [3], [1, 2], NONE, NONE])

    def test_it_leaves_no_trace(self):
        given = ask_company(bursts(2), explore(1), explore(2), trouble(1), enough(), explore(1), explore(2), trouble(1))
        self.assertEqual(given[:3], given[4:])
        self.assertEqual(given[3], [2])
        self.assertEqual(ask_company(bursts(2), enough(), explore(1), explore(2), trouble(1))[1:], given[:3])


class Promise4(unittest.TestCase):
    def hold(self, given, found):
        """What enough answers, against what explore answers at the bounds from 1 on."""
        free = [k for k in BOUNDS if found[k - 1][0] == 1 and found[k - 1][4] == 0]
        if given == NONE:
            self.assertEqual(free, [])
            return
        self.assertEqual(given, [free[0]])
        for answer in found[:given[0] - 1]:
            self.assertEqual(answer[0], 1)
            self.assertGreater(answer[4], 0)
        # Where nobody was held up, nothing changes.
        self.assertEqual(found[given[0] - 1:], [found[given[0] - 1]] * (9 - given[0]))

    def companies(self):
        for seed in range(3000, 3100):
            yield mixed_company(seed)
        for seed in range(100):
            numbers = Numbers(seed)
            told = burst(*[numbers.below(5) for count in range(1 + numbers.below(4))])
            yield [told, mirrored(told, "R")]
        for seed in range(100):
            numbers = Numbers(seed)
            told = mixed_part(numbers, "L", [("L", "R")], 1 + numbers.below(4))
            told = (told[0], told[1], [(s[0], "send" if s[1] != "stop" else "stop", *s[2:]) for s in told[2]])
            yield [told, mirrored(told, "R")]

    def test_against_explore_and_the_second_telling(self):
        met = {}
        for company in self.companies():
            texts = [text_of(told) for told in company]
            given = ask_company(texts, enough(), *[explore(k) for k in BOUNDS])
            self.hold(given[0], given[1:])
            self.assertEqual(given[0], Second(company).enough())
            met[given[0][0]] = met.get(given[0][0], 0) + 1
        for answer in (-5, 1, 2, 3, 4):
            self.assertGreater(met.get(answer, 0), 8, met)


if __name__ == "__main__":
    unittest.main()
