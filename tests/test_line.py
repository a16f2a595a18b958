"""The desk: several calls on one company, and what becomes of the list that is handed in."""

import unittest

from queuedparts.desk import answers
from tests.helper import (HUGE, Numbers, Second, after, answer, ask, codes, enough, explore, hire, label, mixed_company,
                          shown, text_of, trouble, waits, walk, way)

A = "part P of A start S S = send A -> B { a(num 1 3) T } T = recv A <- B { c() E } E = stop"
B = "part P of B start S S = send B -> A { c() T } T = recv B <- A { a(num 0 9) E } E = stop"
A_FORM = ("part P of A\nstart S\nS = send A -> B { a(num 1 3) T }\nT = recv A <- B { c() E }\nE = stop\n")


class Lines(unittest.TestCase):
    LINE = (explore(1), hire(A), explore(1), trouble(1), hire(A), hire("part"), shown(1), shown(0), hire(B), explore(1),
            trouble(1), explore(0), trouble(9), shown(-HUGE), hire(B), explore(8), explore(1), shown(0))
    ANSWERS = [[1, 1, 0, 0, 0], [1, 0], [0], [1, 0, 0, 0, 1, 0, 1, 1, 97], [-4], [0, 3, 4], [-2],
               [len(A_FORM)] + codes(A_FORM), [1, 1], [1, 7, 8, 1, 0], [-5], [-2], [-2], [-2], [-4], [1, 7, 8, 1, 0],
               [1, 7, 8, 1, 0], [len(A_FORM)] + codes(A_FORM)]

    def flat(self):
        return [number for call in self.LINE for number in call]

    def test_each_answer_with_how_many_numbers_it_has(self):
        wanted = [number for answer in self.ANSWERS for number in [len(answer)] + answer]
        self.assertEqual(answers(self.flat()), wanted)
        self.assertEqual(answers([2, 1]), [5, 1, 1, 0, 0, 0])
        self.assertEqual(answers([0, 0]), [3, 0, 3, 0])
        self.assertEqual(answers([1, 0]), [1, -2])

    def test_exploring_sees_each_worker_that_was_hired_since(self):
        self.assertEqual(ask(*self.LINE), self.ANSWERS)

    def test_refusals_and_faults_leave_no_trace(self):
        quiet = [(call, answer) for call, answer in zip(self.LINE, self.ANSWERS) if answer[0] >= 0]
        quiet = [(call, answer) for call, answer in quiet if call != hire("part")]
        self.assertEqual(ask(*[call for call, answer in quiet]), [answer for call, answer in quiet])

    def test_the_list_is_the_same_behind_the_call(self):
        calls = self.flat()
        before = list(calls)
        answers(calls)
        self.assertEqual(calls, before)

    def test_nothing_is_kept_from_one_time_to_the_next(self):
        calls = self.flat()
        first = answers(calls)
        answers(hire(B) + trouble(2))
        self.assertEqual(answers(calls), first)
        self.assertIsNot(answers(calls), first)

    def test_what_is_given_back_is_not_kept(self):
        given = answers(hire(A) + shown(0))
        given.clear()
        self.assertEqual(answers(hire(A) + shown(0)), [2, 1, 0, 1 + len(A_FORM), len(A_FORM)] + codes(A_FORM))

    def test_whole_numbers_and_lists_alone(self):
        calls = self.flat()
        for seed in range(40):
            calls = calls if seed == 0 else [n for told in mixed_company(seed) for n in hire(text_of(told))]
            given = answers(calls + explore(2) + trouble(2))
            self.assertIs(type(given), list)
            self.assertEqual({type(number) for number in given}, {int})

    def test_400_calls(self):
        calls = [hire(A), hire(B)] + [explore(1 + number % 8) for number in range(398)]
        self.assertEqual(ask(*calls)[2:], [[1, 7, 8, 1, 0]] * 398)

    def test_400_calls_on_a_company_with_many_situations(self):
        labels = [f"a{number}" for number in range(9)]
        rings = []
        for name in "XYZ":
            sends = " ; ".join(f"{label}() T{label}" for label in labels)
            rests = " ".join(f"T{label} = recv {name}x <- {name} {{ {label}() S }}" for label in labels)
            rings.append(f"part P of {name} start S S = send {name} -> {name}x {{ {sends} }} {rests}")
        calls = [hire(text) for text in rings] + [explore(1 + number % 8) for number in range(397)]
        self.assertEqual(ask(*calls)[3:], [[1, 1000, 5400, 1, 0]] * 397)


class SevenCalls(unittest.TestCase):
    """One company that grows, asked in all ways between two hires."""

    LINE = [(enough(), [1]), (walk(1, [0, 1]), [0, 0]), (after(1, [0, 1]), [0, 0]), (after(0, [0, 1]), [-2]),
            (hire(A), [1, 0]), (enough(), [-5]), (walk(1, [7, 7]), [1, 1] + waits("A>B a")), (after(1), [0] + way("0!a")),
            (after(1, [7, 7]), [1] + way()), (hire(A), [-4]), (walk(9, [4, 0, 5]), [-2]), (enough(), [-5]),
            (hire("part"), [0, 3, 4]), (trouble(1), [1, 0, 0, 0] + way("0!a")), (explore(1), [0]),
            (shown(0), [len(A_FORM)] + codes(A_FORM)), (hire(B), [1, 1]), (enough(), [1]), (explore(1), [1, 7, 8, 1, 0]),
            (trouble(1), [-5]), (walk(1, [0, 0, 1]), [3, 1, 2] + waits("B>A c")), (after(1, [0, 0, 1]), [0] + way("0?c")),
            (shown(2), [-2]), (walk(-HUGE), [-2]), (after(HUGE, [HUGE]), [-2]), (walk(8), [0, 0, 0] + waits()),
            (after(8), [0] + way("0!a", "1!c")), (enough(), [1])]

    def test_each_answer(self):
        self.assertEqual(ask(*[call for call, wanted in self.LINE]), [wanted for call, wanted in self.LINE])

    def test_how_many_numbers_each_answer_has(self):
        self.assertEqual(answers([4]), [1, 1])
        self.assertEqual(answers([5, 1, 0]), [2, 0, 0])
        self.assertEqual(answers([6, 1, 0]), [2, 0, 0])
        self.assertEqual(answers([5, 0, 2, 4, 4] + [4, 4] + [6, 9, 1, 5] + [4]), [1, -2, 1, 1, 1, 1, 1, -2, 1, 1])
        self.assertEqual(answers([5, 3, 3, 5, 3, 0] + [6, 6, 2, 6, 6] + [2, 4]), [2, 0, 0, 2, 0, 0, 5, 1, 1, 0, 0, 0])

    def test_only_hires_that_are_taken_count(self):
        """Each answer is the same if of all calls before it only those are left by which somebody was hired."""
        kept = []
        for call, wanted in self.LINE:
            self.assertEqual(ask(*kept, call)[-1], wanted)
            if call[0] == 0 and wanted[0] == 1:
                kept.append(call)

    def test_the_list_is_the_same_behind_the_call_and_answers_the_same_again(self):
        calls = [number for call, wanted in self.LINE for number in call]
        before = list(calls)
        first = answers(calls)
        self.assertEqual(calls, before)
        answers(hire(B) + walk(3, [1, 2, 3]) + enough())
        self.assertEqual(answers(calls), first)
        self.assertEqual(answers(before), first)

    def test_the_list_is_not_changed_for_a_while_either(self):
        class Unchanged(list):
            def refuse(self, *given):
                raise AssertionError("the list is changed")

            __setitem__ = __delitem__ = __iadd__ = __imul__ = append = clear = extend = insert = pop = remove = refuse
            reverse = sort = refuse

        calls = [number for call, wanted in self.LINE for number in call]
        self.assertEqual(answers(Unchanged(calls)), answers(calls))

    def test_nothing_is_changed_that_lies_in_the_module(self):
        first = ask(*[call for call, wanted in self.LINE])
        for seed in range(30):
            ask(*self.mixed_line(seed)[0])
        self.assertEqual(ask(*[call for call, wanted in self.LINE]), first)

    def mixed_line(self, seed):
        """Calls on a company that grows, and the answers as the second telling has them."""
        numbers = Numbers(seed)
        waiting = mixed_company(seed)
        parts, calls, wanted = [], [], []
        for count in range(60):
            call, right = self.mixed_call(numbers, Second(parts), waiting)
            calls.append(call)
            wanted.append(right)
            if call[0] == 0 and right[0] == 1:
                parts = parts + [waiting.pop(0)]
        return calls, wanted

    def mixed_call(self, numbers, second, waiting):
        k = numbers.below(12) - 1
        row = [numbers.below(2 * HUGE + 1) - HUGE for step in range(numbers.below(15))]
        refused = [-2] if not 1 <= k <= 8 else None
        kind = numbers.below(9)
        if kind == 0 and waiting:
            return hire(text_of(waiting[0])), [1, len(second.parts)]
        if kind == 1 and second.parts:
            return hire(text_of(numbers.choose(second.parts))), [-4]
        if kind == 2:
            text = numbers.choose(["", "part", "part P of A start S S = stop T", "%"])
            return hire(text), answer(text)
        if kind == 3:
            there = 0 <= k < len(second.parts)
            return shown(k), label(text_of(second.parts[k])) if there else [-2]
        if kind == 4:
            return explore(k), refused or second.explore(k)[0]
        if kind == 5:
            return trouble(k), refused or second.explore(k)[1]
        if kind == 6:
            return enough(), second.enough()
        if kind == 7:
            return walk(k, row), refused or second.walk_answer(k, row)
        return after(k, row), refused or second.after_answer(k, row)

    def test_mixed_lines(self):
        for seed in range(60):
            calls, wanted = self.mixed_line(8000 + seed)
            self.assertEqual(ask(*calls), wanted, seed)

    def test_whole_numbers_and_lists_alone(self):
        for seed in range(20):
            given = answers([number for call in self.mixed_line(9000 + seed)[0] for number in call])
            self.assertIs(type(given), list)
            self.assertEqual({type(number) for number in given}, {int})

    def test_a_ninth_worker_leaves_no_trace(self):
        stops = [hire(f"part P of S{number} start S S = stop") for number in range(6)]
        asked = [enough(), explore(2), trouble(2), walk(2, [0, 0, 1]), after(2, [0, 0, 1]), shown(7), shown(8)]
        ninth = hire("part P of Z start S S = recv Z <- Q { a() S }")
        given = ask(*stops, hire(A), hire(B), *asked, ninth, *asked, hire("part"), *asked)
        self.assertEqual(given[:8], [[1, number] for number in range(8)])
        self.assertEqual(given[8:12], [[1], [1, 7, 8, 1, 0], [-5], [3] + [0] * 6 + [1, 2] + waits("B>A c")])
        self.assertEqual(given[12], [0] + way("6?c"))
        self.assertEqual(given[15], [-3])
        self.assertEqual(given[16:23], given[8:15])
        self.assertEqual(given[24:], given[8:15])

    def test_400_calls(self):
        calls = [enough(), walk(1, [0, 0, 1]), after(1, [0, 0, 1]), explore(1), walk(0)] * 80
        right = [[1], [3, 1, 2] + waits("B>A c"), [0] + way("0?c"), [1, 7, 8, 1, 0], [-2]] * 80
        self.assertEqual(ask(hire(A), hire(B), *calls[:398])[2:], right[:398])

    def test_400_calls_of_enough_on_a_company_with_many_situations(self):
        labels = " ; ".join(f"a{number}() S" for number in range(4))
        shouters = [hire(f"part P of {name} start S S = send {name} -> X {{ {labels} }}") for name in "ABC"]
        self.assertEqual(ask(*shouters, *[enough()] * 397)[3:], [[-5]] * 397)


if __name__ == "__main__":
    unittest.main()
