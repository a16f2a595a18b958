"""Names held against one another: faults 5, 6, 8, 9 and their order; and fault 10."""

import unittest

from tests.helper import Marked, answer, ask, codes, hire, shown


class EachFault(Marked):
    def test_6_the_start_state(self):
        self.assert_fault(6, "part P of A start @T S = stop")
        self.assert_fault(6, "part P of A start @P S = stop")
        self.assert_fault(6, "part P of A start @a S = send A -> B { a() S }")

    def test_the_start_state_may_be_any_one(self):
        self.assertEqual(answer("part P of A start T S = stop T = stop"), [1, 0])

    def test_5_a_state(self):
        self.assert_fault(5, "part P of A start S S = stop @S = stop")
        self.assert_fault(5, "part P of A start S S = stop T = stop @S = stop")
        self.assert_fault(5, "part P of A start S S = stop T = stop @T = send A -> B { a() S }")

    def test_8_two_seats(self):
        self.assert_fault(8, "part P of A start S S = send A -> @A { a() S }")
        self.assert_fault(8, "part P of A start S S = recv A <- @A { a() S }")
        self.assert_fault(8, "part P of A start S S = recv Z <- @Z { a() S }")
        self.assert_fault(8, "part P of A start S S = stop T = send Z -> @Z { a() S }")

    def test_5_a_label(self):
        self.assert_branch_fault(5, "a() S ; @a() S }")
        self.assert_branch_fault(5, "a() S ; b() S ; @a(flag) S }")
        self.assert_branch_taken("a() S ; A() S ; aa() S }")

    def test_labels_of_other_states_may_be_the_same(self):
        self.assertEqual(answer("part P of A start S S = send A -> B { a() T } T = send A -> B { a() S }"), [1, 0])

    def test_9_a_handed_seat_named_as_the_worker_is(self):
        self.assert_branch_fault(9, "a()[@A] S }")
        self.assert_branch_fault(9, "a()[X, @A] S }")
        self.assert_branch_fault(9, "a()[@A, X] S }")
        self.assert_branch_fault(9, "a() S ; b()[@A, A] S }")
        self.assert_branch_taken("a()[B] S ; b()[S] S ; c()[P] S ; d()[d, a] S }")

    def test_5_a_handed_seat(self):
        self.assert_branch_fault(5, "a()[X, @X] S }")
        self.assert_branch_taken("a()[X, x] S ; b()[X, x] S ; c()[x, X] S }")

    def test_6_the_state_behind(self):
        self.assert_branch_fault(6, "a() @T }")
        self.assert_branch_fault(6, "a() S ; b() @a }")
        self.assert_branch_fault(6, "a() S ; b()[X] @X ; c() Y }")

    def test_a_state_may_be_named_before_it_stands(self):
        self.assertEqual(answer("part P of A start S S = send A -> B { a() T } T = stop"), [1, 0])

    def test_different_things_may_have_one_name(self):
        text = "part A of A start A A = send A -> B { A() A ; B()[B] B } B = recv Q <- R { A()[Q, R] A } Q = stop"
        self.assertEqual(answer(text), [1, 0])

    def test_seats_need_not_be_the_workers(self):
        self.assertEqual(answer("part P of A start S S = send X -> Y { a() T } T = recv U <- V { a() S }"), [1, 0])


class Order(Marked):
    def test_the_start_state_comes_first(self):
        self.assert_fault(6, "part P of A start @T S = send A -> A { a()[A] U ; a() U } S = stop")

    def test_then_state_by_state(self):
        self.assert_fault(8, "part P of A start S S = send A -> @A { a() S } S = stop")
        self.assert_fault(6, "part P of A start S S = send A -> B { a() @U } S = stop")
        self.assert_fault(5, "part P of A start S S = stop @S = send A -> A { a() U }")

    def test_seats_come_before_branches(self):
        self.assert_fault(8, "part P of A start S S = send A -> @A { a()[A] S ; a() U }")

    def test_a_branch_goes_from_left_to_right(self):
        self.assert_branch_fault(5, "a() S ; @a()[A, X] U }")
        self.assert_branch_fault(9, "a() S ; b()[@A] U }")
        self.assert_branch_fault(5, "a() S ; b()[X, @X] U }")
        self.assert_branch_fault(6, "a() @U ; a()[A] S }")
        self.assert_branch_fault(9, "a()[@A] S ; a() S }")


def tight(form):
    """A form with all blanks taken out that may go."""
    for sign in ("=", "{", "}", ";", ")", ",", "->", "<-"):
        form = form.replace(" " + sign, sign).replace(sign + " ", sign)
    return form


def form_of(length):
    """A part in its one form, of so many bytes."""
    names = [f"S{number}" for number in range(20)]
    branches = [f"a{number}()" for number in range(16)]
    lines = [f"{name} = send A -> B {{ {' ; '.join(branch + ' ' + name for branch in branches)} }}\n" for name in names]
    form = "part P of W\nstart S0\n"
    for line in lines:
        if len(form) + len(line) + 300 < length:
            form += line
    # Stops fill up what is left: 12 to 24 bytes each, by the length of their names.
    number = 0
    while len(form) < length:
        left = length - len(form)
        size = left if left <= 24 else min(24, left - 12)
        form += f"Z{number}".ljust(size - 8, "z") + " = stop\n"
        number += 1
    return form


class Fault10(Marked):
    def test_a_one_form_of_4096_bytes_is_taken(self):
        form = form_of(4096)
        self.assertEqual(len(form), 4096)
        self.assertEqual(ask(hire(form), shown(0)), [[1, 0], [4096] + codes(form)])
        self.assertLess(len(tight(form)), 4096)
        self.assertEqual(ask(hire(tight(form)), shown(0)), [[1, 0], [4096] + codes(form)])

    def test_a_longer_one_has_fault_10_at_0(self):
        for length in (4097, 4098, 4150):
            form = form_of(length)
            self.assertEqual(len(form), length)
            self.assertEqual(answer(form), [0, 1, 4096])
            self.assertLess(len(tight(form)), 4096)
            self.assertEqual(answer(tight(form)), [0, 10, 0])
            self.assertEqual(answer(" " + tight(form)), [0, 10, 0])

    def test_nothing_is_hired_with_it(self):
        self.assertEqual(ask(hire(tight(form_of(4097))), shown(0), hire("part P of A start S S = stop")),
                         [[0, 10, 0], [-2], [1, 0]])

    def test_names_come_before_it(self):
        text = tight(form_of(4097)).replace("start S0", "start @T0")
        self.assert_fault(6, text)
        self.assert_fault(5, tight(form_of(4097)) + " @S0=stop")


if __name__ == "__main__":
    unittest.main()
