"""Promise 2: a way that trouble tells is gone along by walk, and after tells what is met at its end."""

import unittest

from tests.helper import (after, ask_company, mixed_company, one, part, read_after, read_trouble, read_walk, text_of,
                          trouble, walk)

WORKED = ["part P of A start S S = send A -> B { a(num 1 3) T } T = recv A <- B { c() E } E = stop",
          "part P of B start S S = send B -> A { c() T } T = recv B <- A { a(num 2 9) E } E = stop"]

STANDSTILL = [WORKED[0], "part P of B start S S = recv B <- A { a(num 0 9) E } E = stop"]

RIVALS = [part("A", "S = send A -> B { a() T }", "T = send A -> B { b() U }", "U = recv X <- Y { x() U }"),
          part("B", "S = recv B <- A { a() T }", "T = recv B <- A { b() U }", "U = recv X <- Y { x() U }"),
          part("C", "S = send C -> D { c() S }"), part("D", "S = recv D <- C { c() S }")]

LEFT_OVER = [part("A", "S = send A -> B { a() T }", "T = send A -> C { b() U ; c() T }", "U = stop"),
             part("C", "S = recv C <- A { b() E ; c() S }", "E = stop")]


def companies():
    told = [[text_of(one_part) for one_part in mixed_company(seed)] for seed in range(7000, 7150)]
    return [WORKED, STANDSTILL, RIVALS, LEFT_OVER] + told


class Promise2(unittest.TestCase):
    def go_along(self, texts, k, path):
        """The numbers that pick the moves of the way; nothing is met before its end."""
        numbers = []
        for move in path:
            met, moves = read_after(one(texts, after(k, numbers)))
            self.assertEqual(met, 0)
            self.assertEqual(moves.count(move), 1)
            numbers.append(moves.index(move))
        return numbers

    def test_the_way_is_gone_along(self):
        met = {}
        for texts in companies():
            for k in (1, 2, 8):
                told = one(texts, trouble(k))
                if told[0] < 0:
                    continue
                number, first, second, name, path = read_trouble(told)
                numbers = self.go_along(texts, k, path)
                # Further numbers lead no further.
                walked, seen, further = ask_company(texts, walk(k, numbers), after(k, numbers), walk(k, numbers + [0, 1]))
                self.assertEqual(read_walk(walked, len(texts))[0], len(path))
                self.assertEqual(read_after(seen)[0], number)
                self.assertEqual(further, walked)
                met[number] = met.get(number, 0) + 1
        for number in (1, 2, 3, 4):
            self.assertGreater(met.get(number, 0), 10, met)

    def test_by_no_shorter_way(self):
        longest = 0
        for texts in companies():
            for k in (1, 2):
                told = one(texts, trouble(k))
                if told[0] < 0:
                    continue
                path = read_trouble(told)[4]
                self.try_all(texts, k, len(path))
                longest = max(longest, len(path))
        self.assertGreater(longest, 5)

    def try_all(self, texts, k, length):
        """Goes all walks of fewer moves, as long as there are not too many of them."""
        level = [[]]
        for count in range(length):
            if len(level) > 100:
                return
            found = [read_after(answer) for answer in ask_company(texts, *[after(k, row) for row in level])]
            self.assertEqual({met for met, moves in found}, {0})
            level = [row + [number] for row, (met, moves) in zip(level, found) for number in range(len(moves))]


if __name__ == "__main__":
    unittest.main()
