"""Promise 5: two parts, one of which is the other's mirrored, never come to trouble."""

import unittest

from tests.helper import (HANDED, LABELS, RANGES, Numbers, after, ask_company, explore, mirrored, read_after, text_of,
                          trouble)

BOUNDS = range(1, 9)

BUYING = ("Buyer", "Ask", [
    ("Ask", "send", "Buyer", "Shop", [("want", ["text 20", "num 1 9"], [], "Price"), ("bye", [], ["Key"], "Done")]),
    ("Price", "recv", "Shop", "Buyer", [("price", ["num 0 500"], [], "Ask"), ("none", [], [], "Ask")]),
    ("Done", "stop", "", "", [])])

# What one sends along a route is heard along it by the other one alone.
SENT = [("L", "R"), ("L", "Q"), ("K", "R")]
HEARD = [("R", "L"), ("Q", "L"), ("R", "K")]


def talk(seed):
    numbers = Numbers(seed)
    routes = 1 + numbers.below(3)
    names = [f"S{number}" for number in range(1 + numbers.below(6))] + ["E"]
    states = []
    for name in names[:-1]:
        kind = numbers.choose(["send", "recv"])
        x, y = numbers.choose((SENT if kind == "send" else HEARD)[:routes])
        labels = [text for text in LABELS if numbers.below(3) == 0] or ["a"]
        branches = [(text, numbers.choose(RANGES), numbers.choose(HANDED), numbers.choose(names)) for text in labels]
        states.append((name, kind, x, y, branches))
    return ("L", "S0", states + [("E", "stop", "", "", [])])


class Promise5(unittest.TestCase):
    def hold(self, told, other):
        texts = [text_of(told), text_of(mirrored(told, other))]
        outcomes = []
        for company in (texts, texts[::-1]):
            given = ask_company(company, *[call(k) for k in BOUNDS for call in (explore, trouble)])
            for found, met in zip(given[::2], given[1::2]):
                self.assertIn((found[0], met), ((1, [-5]), (-6, [-6])), company)
                outcomes.append(found[0])
        return outcomes

    def test_the_documents_part(self):
        self.assertEqual(self.hold(BUYING, "Shop"), [1] * 16)

    def test_mixed_parts(self):
        outcomes = []
        for seed in range(80):
            outcomes += self.hold(talk(seed), "R")
        self.assertGreater(outcomes.count(1), 600)

    def test_walks_meet_none(self):
        """Where there are too many situations to explore, too."""
        for seed in range(150):
            told, numbers = talk(seed), Numbers(seed)
            texts = [text_of(told), text_of(mirrored(told, "R"))]
            rows = [[numbers.below(1000) for step in range(numbers.below(60))] for count in range(12)]
            for answer in ask_company(texts, *[after(1 + numbers.below(8), row) for row in rows]):
                self.assertEqual(read_after(answer)[0], 0)

    def test_a_part_that_is_mirrored_but_for_one_thing_may_come_to_trouble(self):
        changed = [(name, kind, x, y, [(text, [row.replace("num 0 500", "num 0 499") for row in ranges], handed, goal)
                                       for text, ranges, handed, goal in branches])
                   for name, kind, x, y, branches in BUYING[2]]
        other = text_of(mirrored(BUYING, "Shop"))
        self.assertEqual(ask_company([text_of(("Buyer", "Ask", changed)), other], explore(1)), [[0]])


if __name__ == "__main__":
    unittest.main()
