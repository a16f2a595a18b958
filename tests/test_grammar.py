"""The grammar: faults 3, 4 and 7, and the limits on both sides."""

import unittest

from tests.helper import Marked, answer


class Fault3(Marked):
    def test_a_text_cut_short_anywhere(self):
        text = "part P of A start S S = send A -> B { a ( num 1 2 , text 3 , flag ) [ X , Y ] S ; b ( ) S }"
        tokens = text.split(" ")
        for count in range(len(tokens)):
            cut = " ".join(tokens[:count])
            self.assertEqual(answer(cut), [0, 3, len(cut)], cut)
            self.assertEqual(answer(cut + " \n "), [0, 3, len(cut) + 3], cut)
        self.assertEqual(answer(text), [1, 0])

    def test_a_wrong_token_anywhere(self):
        text = "part P of A start S S = recv A <- B { a ( num 1 2 , text 3 , flag ) [ X , Y ] S ; b ( ) S }"
        tokens = text.split(" ")
        for count in range(len(tokens)):
            for wrong in ("|", '"P"', "script"):
                marked = " ".join(tokens[:count] + ["@" + wrong] + tokens[count + 1:])
                self.assert_fault(3, marked)

    def test_the_head(self):
        self.assert_fault(3, "@P of A start S S = stop")
        self.assert_fault(3, "part @of A start S S = stop")
        self.assert_fault(3, "part P @A start S S = stop")
        self.assert_fault(3, "part P of @start S S = stop")
        self.assert_fault(3, "part P of A @S S = stop")
        self.assert_fault(3, "part P of A start @7 S = stop")

    def test_there_is_at_least_one_state(self):
        self.assert_fault(3, "part P of A start S @")
        self.assert_fault(3, "part P of A start S \n\t@")

    def test_states(self):
        self.assert_fault(3, "part P of A start S @= stop")
        self.assert_fault(3, "part P of A start S S @stop")
        self.assert_fault(3, "part P of A start S S = @S")
        self.assert_fault(3, "part P of A start S S = @")
        self.assert_fault(3, "part P of A start S S = stop @stop")
        self.assert_fault(3, "part P of A start S S = stop @; T = stop")
        self.assert_fault(3, "part P of A start S S = stop T @")
        self.assert_fault(3, "part P of A start S S = send A @<- B { a() S }")
        self.assert_fault(3, "part P of A start S S = recv A @-> B { a() S }")
        self.assert_fault(3, "part P of A start S S = send A -> B @S")
        self.assert_fault(3, "part P of A start S S = send A -> B { a() S } @}")

    def test_branches(self):
        self.assert_branch_fault(3, "@}")
        self.assert_branch_fault(3, "a() S ; @}")
        self.assert_branch_fault(3, "a() S @, b() S }")
        self.assert_branch_fault(3, "a() S @b() S }")
        self.assert_branch_fault(3, "@; a() S }")
        self.assert_branch_fault(3, "a @S }")
        self.assert_branch_fault(3, "a() @}")
        self.assert_branch_fault(3, "a() @stop }")

    def test_ranges(self):
        self.assert_branch_fault(3, "a(@, flag) S }")
        self.assert_branch_fault(3, "a(flag, @) S }")
        self.assert_branch_fault(3, "a(flag @flag) S }")
        self.assert_branch_fault(3, "a(flag @; flag) S }")
        self.assert_branch_fault(3, "a(@x) S }")
        self.assert_branch_fault(3, "a(@1) S }")
        self.assert_branch_fault(3, "a(num @) S }")
        self.assert_branch_fault(3, "a(num 1 @) S }")
        self.assert_branch_fault(3, "a(num 1@, 2) S }")
        self.assert_branch_fault(3, "a(num 1 2 @3) S }")
        self.assert_branch_fault(3, "a(num 5 @x) S }")
        self.assert_branch_fault(3, "a(text @) S }")
        self.assert_branch_fault(3, "a(text @x) S }")
        self.assert_branch_fault(3, "a(text 1 @2) S }")
        self.assert_branch_fault(3, "a(flag @1) S }")

    def test_handed_seats(self):
        self.assert_branch_fault(3, "a()[@] S }")
        self.assert_branch_fault(3, "a()[X, @] S }")
        self.assert_branch_fault(3, "a()[@, X] S }")
        self.assert_branch_fault(3, "a()[X @Y] S }")
        self.assert_branch_fault(3, "a()[X@; Y] S }")
        self.assert_branch_fault(3, "a()[@flag] S }")
        self.assert_branch_fault(3, "a()[X] @[Y] S }")
        self.assert_branch_fault(3, "a@[X]() S }")


class Fault4(Marked):
    def test_64_states_and_one_more(self):
        states = " ".join(f"S{number}=stop" for number in range(64))
        head = "part P of A start S0 " + states
        self.assertEqual(answer(head), [1, 0])
        self.assert_fault(4, head + " @T=stop")
        self.assert_fault(4, head + " @T")
        self.assert_fault(4, head + " @S0=stop")
        self.assert_fault(3, head + " @stop")
        self.assert_fault(3, head + " @=")
        self.assert_fault(3, head + " @1")

    def test_16_branches_and_one_more(self):
        branches = " ; ".join(f"a{number}() S" for number in range(16))
        self.assert_branch_taken(branches + " }")
        self.assert_branch_fault(4, branches + " ; @b() S }")
        self.assert_branch_fault(4, branches + " ; @b")
        self.assert_branch_fault(4, branches + " ; @a0() S }")
        self.assert_branch_fault(3, branches + " ; @}")
        self.assert_branch_fault(3, branches + " ; @stop")
        self.assert_branch_fault(3, branches + " ; @")
        self.assert_branch_fault(3, branches + " @b() S }")

    def test_the_limits_are_those_of_each_thing_by_itself(self):
        branches = " ; ".join(f"a{number}(flag, flag, flag, flag)[X, Y] S" for number in range(16))
        self.assertEqual(answer(f"part P of A start S S = send A -> B {{ {branches} }} "
                                f"T = recv A <- B {{ {branches} }}"), [1, 0])

    def test_4_ranges_and_one_more(self):
        self.assert_branch_taken("a(flag, num 1 2, text 3, flag) S }")
        for word in ("flag", "num", "text"):
            self.assert_branch_fault(4, f"a(flag, num 1 2, text 3, flag, @{word}")
        self.assert_branch_fault(4, "a(flag, flag, flag, flag, @flag) S }")
        self.assert_branch_fault(4, "a(flag, flag, flag, flag, @num 2 1) S }")
        self.assert_branch_fault(3, "a(flag, flag, flag, flag, @) S }")
        self.assert_branch_fault(3, "a(flag, flag, flag, flag, @x) S }")
        self.assert_branch_fault(3, "a(flag, flag, flag, flag @flag) S }")

    def test_2_handed_seats_and_one_more(self):
        self.assert_branch_taken("a()[X] S }")
        self.assert_branch_taken("a()[X, Y] S }")
        self.assert_branch_fault(4, "a()[X, Y, @Z] S }")
        self.assert_branch_fault(4, "a()[X, Y, @Z")
        self.assert_branch_fault(4, "a()[X, Y, @X] S }")
        self.assert_branch_fault(3, "a()[X, Y, @] S }")
        self.assert_branch_fault(3, "a()[X, Y, @flag] S }")
        self.assert_branch_fault(3, "a()[X, Y @Z] S }")


class Fault7(Marked):
    def test_bounds_of_num(self):
        self.assert_branch_taken("a(num 1 1, num -1 1, num -2 -1, num -1000000000 1000000000) S }")
        self.assert_branch_fault(7, "a(num 1 @0) S }")
        self.assert_branch_fault(7, "a(num 0 @-1) S }")
        self.assert_branch_fault(7, "a(num -1 @-2) S }")
        self.assert_branch_fault(7, "a(num 1000000000 @-1000000000) S }")
        self.assert_branch_fault(7, "a(num 10 @9) S }")

    def test_bounds_of_text(self):
        self.assert_branch_taken("a(text 0, text 255, text 1, text 254) S }")
        self.assert_branch_fault(7, "a(text @-1) S }")
        self.assert_branch_fault(7, "a(text @256) S }")
        self.assert_branch_fault(7, "a(text @1000000000) S }")
        self.assert_branch_fault(7, "a(text @-1000000000) S }")


class Order(Marked):
    def test_tokens_come_before_the_grammar(self):
        self.assert_fault(2, "stop stop stop @%")
        self.assert_fault(2, "part P of A start S S = send A -> B { a(num 2 1) S } @007")
        self.assert_fault(2, "part P of A start T S = stop # ok\n @\"")
        self.assert_fault(2, "@007 \" \r")

    def test_grammar_limits_and_bounds_from_left_to_right(self):
        self.assert_branch_fault(7, "a(num 2 @1, text 256) S }")
        self.assert_branch_fault(7, "a(num 2 @1 stop stop")
        self.assert_branch_fault(7, "a(num 2 @1")
        self.assert_branch_fault(7, "a(text @256)[X, Y, Z] S }")
        self.assert_branch_fault(4, "a()[X, Y, @Z] S ; b(num 2 1) S }")
        self.assert_branch_fault(3, "a()[@] S ; b(num 2 1)[X, Y, Z] S }")

    def test_the_grammar_comes_before_names(self):
        self.assert_fault(3, "part P of A start T S = stop S = stop S @")
        self.assert_fault(3, "part P of A start T S = send A -> A { a()[A] U ; a() U } @;")
        self.assert_fault(7, "part P of A start T S = send A -> A { a(num 2 @1) U }")
        self.assert_fault(4, "part P of A start T S = send A -> A { a()[X, X, @X] U }")


if __name__ == "__main__":
    unittest.main()
