"""The desk: several calls on one company, and what becomes of the list that is handed in."""

import unittest

from queuedparts.desk import answers
from tests.helper import HUGE, ask, codes, explore, hire, mixed_company, shown, text_of, trouble

A = "part P of A start S S = send A -> B { a(num 1 3) T } T = recv A <- B { c() E } E = stop"
B = "part P of B start S S = send B -> A { c() T } T = recv B <- A { a(num 0 9) E } E = stop"
A_FORM = ("part P of A\nstart S\nS = send A -> B { a(num 1 3) T }\nT = recv A <- B { c() E }\nE = stop\n")


class Lines(unittest.TestCase):
    LINE = (explore(1), hire(A), explore(1), trouble(1), hire(A), hire("part"), shown(1), shown(0), hire(B), explore(1),
            trouble(1), explore(0), trouble(9), shown(-HUGE), hire(B), explore(8), explore(1), shown(0))
    ANSWERS = [[1, 1, 0, 0, 0], [1, 0], [0], [1, 0, 0, 0, 1, 0, 1, 1, 97], [-4], [0, 3, 4], [-2],
               [len(A_FORM)] + codes(A_FORM), [1, 1], [1, 7, 8, 1, 0], [-5], [-2], [-2], [-2], [-4], [1, 7, 8, 1, 0],
               [1, 7, 8, 1, 0], [len(A_FORM)] + codes(A_FORM)]

    def flat(self):
        return [number for call in self.LINE for number in call]

    def test_each_answer_with_how_many_numbers_it_has(self):
        wanted = [number for answer in self.ANSWERS for number in [len(answer)] + answer]
        self.assertEqual(answers(self.flat()), wanted)
        self.assertEqual(answers([2, 1]), [5, 1, 1, 0, 0, 0])
        self.assertEqual(answers([0, 0]), [3, 0, 3, 0])
        self.assertEqual(answers([1, 0]), [1, -2])

    def test_exploring_sees_each_worker_that_was_hired_since(self):
        self.assertEqual(ask(*self.LINE), self.ANSWERS)

    def test_refusals_and_faults_leave_no_trace(self):
        quiet = [(call, answer) for call, answer in zip(self.LINE, self.ANSWERS) if answer[0] >= 0]
        quiet = [(call, answer) for call, answer in quiet if call != hire("part")]
        self.assertEqual(ask(*[call for call, answer in quiet]), [answer for call, answer in quiet])

    def test_the_list_is_the_same_behind_the_call(self):
        calls = self.flat()
        before = list(calls)
        answers(calls)
        self.assertEqual(calls, before)

    def test_nothing_is_kept_from_one_time_to_the_next(self):
        calls = self.flat()
        first = answers(calls)
        answers(hire(B) + trouble(2))
        self.assertEqual(answers(calls), first)
        self.assertIsNot(answers(calls), first)

    def test_what_is_given_back_is_not_kept(self):
        given = answers(hire(A) + shown(0))
        given.clear()
        self.assertEqual(answers(hire(A) + shown(0)), [2, 1, 0, 1 + len(A_FORM), len(A_FORM)] + codes(A_FORM))

    def test_whole_numbers_and_lists_alone(self):
        calls = self.flat()
        for seed in range(40):
            calls = calls if seed == 0 else [n for told in mixed_company(seed) for n in hire(text_of(told))]
            given = answers(calls + explore(2) + trouble(2))
            self.assertIs(type(given), list)
            self.assertEqual({type(number) for number in given}, {int})

    def test_400_calls(self):
        calls = [hire(A), hire(B)] + [explore(1 + number % 8) for number in range(398)]
        self.assertEqual(ask(*calls)[2:], [[1, 7, 8, 1, 0]] * 398)

    def test_400_calls_on_a_company_with_many_situations(self):
        labels = [f"a{number}" for number in range(9)]
        rings = []
        for name in "XYZ":
            sends = " ; ".join(f"{label}() T{label}" for label in labels)
            rests = " ".join(f"T{label} = recv {name}x <- {name} {{ {label}() S }}" for label in labels)
            rings.append(f"part P of {name} start S S = send {name} -> {name}x {{ {sends} }} {rests}")
        calls = [hire(text) for text in rings] + [explore(1 + number % 8) for number in range(397)]
        self.assertEqual(ask(*calls)[3:], [[1, 1000, 5400, 1, 0]] * 397)


if __name__ == "__main__":
    unittest.main()
