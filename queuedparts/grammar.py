"""From tokens to a part, as the grammar has it; names are not held together here."""

from queuedparts.faults import NO_BOUNDS, NOT_ALLOWED, ONE_TOO_MANY, Fault
from queuedparts.parts import FLAG, NUM, RECV, SEND, STOP, TEXT, Branch, Part, State
from queuedparts.tokens import END, NUMBER, WORD

MOST_STATES = 64
MOST_BRANCHES = 16
MOST_RANGES = 4
MOST_HANDED = 2
LONGEST_TEXT = 255

RESERVED = (
    "script", "parties", "seat", "of", "start", "end", "both", "flag", "num", "text", "part", "stop",
    "send", "recv", "program", "for", "def", "if", "pick", "any", "set", "go", "true", "false",
)


class Reader:
    """Goes along tokens, of which the last one stands for the end."""

    def __init__(self, tokens):
        self.tokens = tokens
        self.at = 0

    def look(self):
        return self.tokens[self.at]

    def sees(self, text):
        # Quoted texts, numbers and the end have an empty text, so they are never taken for a word or sign.
        return self.look().text == text

    def sees_name(self):
        return self.look().kind == WORD and self.look().text not in RESERVED

    def sees_range(self):
        return self.look().text in (FLAG, NUM, TEXT)

    def take_if(self, allowed):
        token = self.look()
        if not allowed:
            raise Fault(NOT_ALLOWED, token.place)
        self.at += 1
        return token

    def take(self, text):
        return self.take_if(self.sees(text))

    def take_name(self):
        return self.take_if(self.sees_name())

    def take_number(self):
        return self.take_if(self.look().kind == NUMBER)

    def refuse_more(self, full, begins):
        """Fault 4, if one more thing begins here and there is no room for it."""
        if full and begins:
            raise Fault(ONE_TOO_MANY, self.look().place)


def read_part(tokens):
    reader = Reader(tokens)
    reader.take("part")
    title = reader.take_name()
    reader.take("of")
    worker = reader.take_name()
    reader.take("start")
    start = reader.take_name()
    states = [read_state(reader)]
    while reader.look().kind != END:
        reader.refuse_more(len(states) == MOST_STATES, reader.sees_name())
        states.append(read_state(reader))
    return Part(title, worker, start, states)


def read_state(reader):
    name = reader.take_name()
    reader.take("=")
    if reader.sees(SEND):
        return read_talk(reader, name, SEND, "->")
    if reader.sees(RECV):
        return read_talk(reader, name, RECV, "<-")
    reader.take(STOP)
    return State(name, STOP, [], [])


def read_talk(reader, name, kind, arrow):
    reader.take(kind)
    first = reader.take_name()
    reader.take(arrow)
    second = reader.take_name()
    return State(name, kind, [first, second], read_branches(reader))


def read_branches(reader):
    reader.take("{")
    branches = [read_branch(reader)]
    while not reader.sees("}"):
        reader.take(";")
        reader.refuse_more(len(branches) == MOST_BRANCHES, reader.sees_name())
        branches.append(read_branch(reader))
    reader.take("}")
    return branches


def read_branch(reader):
    label = reader.take_name()
    ranges = read_ranges(reader)
    handed = read_handed(reader) if reader.sees("[") else []
    goal = reader.take_name()
    return Branch(label, ranges, handed, goal)


def read_ranges(reader):
    reader.take("(")
    ranges = []
    if not reader.sees(")"):
        ranges.append(read_range(reader))
    while not reader.sees(")"):
        reader.take(",")
        reader.refuse_more(len(ranges) == MOST_RANGES, reader.sees_range())
        ranges.append(read_range(reader))
    reader.take(")")
    return tuple(ranges)


def read_range(reader):
    word = reader.take_if(reader.sees_range()).text
    if word == NUM:
        return read_num(reader)
    if word == TEXT:
        return read_text(reader)
    return (FLAG, 0, 0)


def read_num(reader):
    least = reader.take_number()
    greatest = reader.take_number()
    if greatest.amount < least.amount:
        raise Fault(NO_BOUNDS, greatest.place)
    return (NUM, least.amount, greatest.amount)


def read_text(reader):
    longest = reader.take_number()
    if longest.amount < 0 or longest.amount > LONGEST_TEXT:
        raise Fault(NO_BOUNDS, longest.place)
    return (TEXT, 0, longest.amount)


def read_handed(reader):
    reader.take("[")
    handed = [reader.take_name()]
    while not reader.sees("]"):
        reader.take(",")
        reader.refuse_more(len(handed) == MOST_HANDED, reader.sees_name())
        handed.append(reader.take_name())
    reader.take("]")
    return handed
