"""hire and shown: the one form, refusals, and that faults and refusals change nothing."""

import unittest

from tests.helper import HUGE, answer, ask, codes, explore, hire, shown

BUYING = """part Buying of Buyer
start Ask
Ask = send Buyer -> Shop { want(text 20, num 1 9) Price ; bye()[Key] Done }
Price = recv Buyer <- Shop { price(num 0 500) Ask ; none() Ask }
Done = stop
"""


def stopped(worker):
    return f"part P of {worker} start S S = stop"


def form(text):
    return [len(text)] + codes(text)


class OneForm(unittest.TestCase):
    def assert_shown(self, text, wanted):
        self.assertEqual(ask(hire(text), shown(0)), [[1, 0], form(wanted)])

    def test_the_part_buying(self):
        self.assert_shown(BUYING, BUYING)

    def test_buying_written_otherwise(self):
        self.assert_shown("""# a part
            part	Buying of#whose
            Buyer start Ask Ask=send Buyer->Shop{want(text 20,num 1 9)Price;bye()[Key]Done}Price=recv
            Buyer<-Shop{price(num 0 500)Ask
            # and
            ;none ( ) Ask}Done=stop#done""", BUYING)

    def test_one_line_is_enough(self):
        self.assert_shown(BUYING.replace("\n", " "), BUYING)

    def test_the_one_form_of_a_one_form_is_the_same(self):
        text = ("part P of W start T S=stop T=recv B<-A{b(flag)[X,Y]S;a(num -5 -5,flag,text 0,num 0 1000000000)[W2]T}"
                "U=send A->B{z()T}")
        wanted = ("part P of W\nstart T\nS = stop\n"
                  "T = recv B <- A { b(flag)[X, Y] S ; a(num -5 -5, flag, text 0, num 0 1000000000)[W2] T }\n"
                  "U = send A -> B { z() T }\n")
        self.assert_shown(text, wanted)
        self.assert_shown(wanted, wanted)

    def test_branches_and_states_keep_their_order(self):
        wanted = "part P of A\nstart S\nT = stop\nS = send A -> B { b() T ; a() S ; B() T }\nA = stop\n"
        self.assert_shown(wanted, wanted)


class FaultsOfTheDocument(unittest.TestCase):
    def test_examples(self):
        self.assertEqual(answer("part P of A start S S = send A -> A { a() T }"), [0, 8, 34])
        self.assertEqual(answer("part P of A start S S = stop S = stop"), [0, 5, 29])
        self.assertEqual(answer("part P of A start S S = recv A <- B { a("), [0, 3, 40])


class Hire(unittest.TestCase):
    EIGHT = [hire(stopped(f"W{number}")) for number in range(8)]

    def test_workers_are_numbered_in_order(self):
        self.assertEqual(ask(*self.EIGHT), [[1, number] for number in range(8)])

    def test_3_with_8_workers(self):
        self.assertEqual(ask(*self.EIGHT, hire(stopped("N")), shown(8), shown(7))[8:],
                         [[-3], [-2], form("part P of W7\nstart S\nS = stop\n")])

    def test_4_for_a_name_that_is_there(self):
        given = ask(hire(stopped("A")), hire(stopped("B")), hire("part Q of A start T T = stop"), hire(BUYING),
                    hire(stopped("B")), hire(stopped("a")))
        self.assertEqual(given, [[1, 0], [1, 1], [-4], [1, 2], [-4], [1, 3]])

    def test_3_comes_before_4(self):
        self.assertEqual(ask(*self.EIGHT, hire(stopped("W0")))[8], [-3])
        self.assertEqual(ask(*self.EIGHT[:7], hire(stopped("W0")))[7], [-4])

    def test_faults_come_before_3_and_4(self):
        for text, fault in ((stopped("W0") + " S", [0, 3, 31]), (stopped("W0") + " S=stop", [0, 5, 30]),
                            ("\r", [0, 2, 0]), (stopped("W0").ljust(5000), [0, 1, 4096])):
            self.assertEqual(ask(*self.EIGHT, hire(text))[8], fault)
            self.assertEqual(ask(*self.EIGHT[:1], hire(text))[1], fault)

    def test_titles_states_and_seats_may_be_those_of_others(self):
        text = "part A of B start A A = send A -> C { A() A }"
        self.assertEqual(ask(hire(stopped("A")), hire(text)), [[1, 0], [1, 1]])

    def test_a_fault_or_a_refusal_changes_nothing(self):
        wrong = [hire(stopped("A")), hire(""), hire("part P of Z start T S = stop"), hire("\r"),
                 hire(stopped("Q").ljust(4097)), shown(5), explore(0)]
        first = form("part P of A\nstart S\nS = stop\n")
        given = ask(hire(stopped("A")), *wrong, shown(0), shown(1), explore(1), hire(stopped("Z")))
        self.assertEqual(given[8:], [first, [-2], [1, 1, 0, 0, 0], [1, 1]])


class Shown(unittest.TestCase):
    def test_2_without_such_a_worker(self):
        for number in (0, 1, -1, HUGE, -HUGE):
            self.assertEqual(ask(shown(number)), [[-2]])
        for number in (2, 8, -1, -2, HUGE, -HUGE):
            self.assertEqual(ask(hire(stopped("A")), hire(stopped("B")), shown(number))[2], [-2])

    def test_each_worker_has_its_own_part(self):
        given = ask(hire(stopped("A")), hire(BUYING), shown(1), shown(0), shown(1))
        self.assertEqual(given[2:], [form(BUYING), form("part P of A\nstart S\nS = stop\n"), form(BUYING)])


if __name__ == "__main__":
    unittest.main()
