"""What the tests share: calls, answers, places of faults, and a plain second telling of a company.

The second telling takes parts as plain tuples and follows the document word by word, so that the
program's answers can be held against it. A part there is (worker, start, states), a state is
(name, kind, x, y, branches), a branch is (label, ranges, handed, goal); a range is a text as it is
written. A message always goes from x to y.
"""

import unittest

from queuedparts.desk import answers

HUGE = 10 ** 18


def codes(text):
    return list(text) if isinstance(text, bytes) else list(text.encode("latin-1"))


def hire(text):
    row = codes(text)
    return [0, len(row)] + row


def shown(worker):
    return [1, worker]


def explore(bound):
    return [2, bound]


def trouble(bound):
    return [3, bound]


def enough():
    return [4]


def walk(bound, numbers=()):
    return [5, bound, len(numbers)] + list(numbers)


def after(bound, numbers=()):
    return [6, bound, len(numbers)] + list(numbers)


def ask(*calls):
    """The answers to the calls, a list each."""
    line = [number for call in calls for number in call]
    if len(calls) > 400 or len(line) > 16000:
        raise AssertionError("no such line is handed in")
    given = answers(line)
    found = []
    place = 0
    while place < len(given):
        found.append(given[place + 1:place + 1 + given[place]])
        place += 1 + given[place]
    return found


def ask_company(texts, *calls):
    """The answers to the calls on a company of these parts."""
    given = ask(*([hire(text) for text in texts] + list(calls)))
    hired = [[1, number] for number in range(len(texts))]
    if given[:len(texts)] != hired:
        raise AssertionError(f"not hired: {given[:len(texts)]}")
    return given[len(texts):]


def one(texts, call):
    return ask_company(texts, call)[0]


def label(text):
    return [len(text)] + codes(text)


def way(*moves):
    """A way as it is answered, of moves like "0!a" (worker 0 sends a) and "1?b" (worker 1 receives b)."""
    told = [len(moves)]
    for move in moves:
        told += [int(move[0]), 1 if move[1] == "!" else 2] + label(move[2:])
    return told


def waits(*rows):
    """Queues as walk answers them, of rows like "A>B a b": from A to B wait a, the oldest, and b."""
    told = [len(rows)]
    for row in rows:
        seats, *names = row.split()
        x, y = seats.split(">")
        told += label(x) + label(y) + [len(names)]
        for name in names:
            told += label(name)
    return told


class Answer:
    """Goes along the numbers of one answer."""

    def __init__(self, numbers):
        self.numbers = numbers
        self.at = 0

    def number(self):
        self.at += 1
        return self.numbers[self.at - 1]

    def text(self):
        length = self.number()
        self.at += length
        return bytes(self.numbers[self.at - length:self.at]).decode()

    def move(self):
        return self.number(), self.number(), self.text()

    def row(self, read):
        return [read() for count in range(self.number())]

    def queue(self):
        return self.text(), self.text(), self.row(self.text)

    def end(self):
        if self.at != len(self.numbers):
            raise AssertionError(f"{len(self.numbers) - self.at} numbers too many")


def read_walk(numbers, workers):
    """(how many moves were made, the workers' states, the queues as (x, y, labels))."""
    given = Answer(numbers)
    found = given.number(), [given.number() for worker in range(workers)], given.row(given.queue)
    given.end()
    return found


def read_after(numbers):
    """(trouble's number or 0, the moves as (worker, 1 or 2, label))."""
    given = Answer(numbers)
    found = given.number(), given.row(given.move)
    given.end()
    return found


def read_trouble(numbers):
    """(number, worker, worker, label, the way's moves)."""
    given = Answer(numbers)
    found = given.number(), given.number(), given.number(), given.text(), given.row(given.move)
    given.end()
    return found


def part(worker, *states):
    """A part that starts at the first of its states."""
    return f"part P of {worker} start {states[0].split()[0]} " + " ".join(states)


def answer(text):
    """What hire answers to this text alone."""
    return ask(hire(text))[0]


class Marked(unittest.TestCase):
    """In these texts a @ marks the place of the fault; it is taken out before the text is handed in."""

    def assert_fault(self, code, marked):
        place = marked.index("@")
        self.assertEqual(answer(marked.replace("@", "")), [0, code, place], marked)

    def assert_branch_fault(self, code, marked):
        """The fault stands within the branches of a send, and of a recv."""
        self.assert_fault(code, "part P of A start S S = send A -> B { " + marked)
        self.assert_fault(code, "part P of A start S S = recv A <- B { " + marked)

    def assert_branch_taken(self, branches):
        self.assertEqual(answer("part P of A start S S = send A -> B { " + branches), [1, 0], branches)
        self.assertEqual(answer("part P of A start S S = recv A <- B { " + branches), [1, 0], branches)


# The second telling.

def text_of(told):
    worker, start, states = told
    lines = [f"part P of {worker}", f"start {start}"]
    for name, kind, x, y, branches in states:
        if kind == "stop":
            lines.append(f"{name} = stop")
            continue
        seats = f"{x} -> {y}" if kind == "send" else f"{y} <- {x}"
        rows = [branch_text(branch) for branch in branches]
        lines.append(f"{name} = {kind} {seats} {{ {' ; '.join(rows)} }}")
    return "".join(line + "\n" for line in lines)


def branch_text(branch):
    name, ranges, handed, goal = branch
    seats = f"[{', '.join(handed)}]" if handed else ""
    return f"{name}({', '.join(ranges)}){seats} {goal}"


def mirrored(told, worker):
    other = {"send": "recv", "recv": "send", "stop": "stop"}
    return (worker, told[1], [(s[0], other[s[1]], s[2], s[3], s[4]) for s in told[2]])


def is_within(inner, outer):
    a, b = inner.split(), outer.split()
    if a[0] != b[0]:
        return False
    if a[0] == "num":
        return int(b[1]) <= int(a[1]) and int(a[2]) <= int(b[2])
    return a[0] == "flag" or int(a[1]) <= int(b[1])


class Second:
    """A company told a second time."""

    def __init__(self, parts):
        self.parts = parts
        self.states = [{state[0]: state for state in told[2]} for told in parts]

    def first(self):
        return tuple(told[1] for told in self.parts), ()

    def at(self, situation):
        return [states[name] for states, name in zip(self.states, situation[0])]

    def taker(self, state, message):
        for name, ranges, handed, goal in state[4]:
            same = name == message[0] and list(handed) == list(message[2]) and len(ranges) == len(message[1])
            if same and all(map(is_within, message[1], ranges)):
                return goal
        return None

    def held_up(self, situation, bound):
        queues = dict(situation[1])
        return any(s[1] == "send" and len(queues.get(s[2:4], ())) >= bound for s in self.at(situation))

    def moves(self, situation, bound):
        """Each as (worker, 1 or 2, label, situation)."""
        queues = dict(situation[1])
        found = []
        for worker, state in enumerate(self.at(situation)):
            queue = queues.get(state[2:4], ())
            if state[1] == "send" and len(queue) < bound:
                for name, ranges, handed, goal in sorted(state[4], key=lambda b: b[0].encode()):
                    message = (name, tuple(ranges), tuple(handed))
                    found.append((worker, 1, name, self.step(situation, worker, goal, queue + (message,))))
            elif state[1] == "recv" and queue and self.taker(state, queue[0]) is not None:
                goal = self.taker(state, queue[0])
                found.append((worker, 2, queue[0][0], self.step(situation, worker, goal, queue[1:])))
        return found

    def step(self, situation, worker, goal, queue):
        standing = list(situation[0])
        state = self.states[worker][standing[worker]]
        standing[worker] = goal
        queues = dict(situation[1])
        queues[state[2:4]] = queue
        return tuple(standing), tuple(sorted((pair, row) for pair, row in queues.items() if row))

    def trouble(self, situation, bound):
        """(number, worker, worker, label) or None."""
        queues = dict(situation[1])
        at = self.at(situation)
        for worker, state in enumerate(at):
            queue = queues.get(state[2:4], ())
            if state[1] == "recv" and queue and self.taker(state, queue[0]) is None:
                return 2, worker, worker, queue[0][0]
        for worker, state in enumerate(at):
            for other in range(worker + 1, len(at)):
                if state[1] == at[other][1] == "recv" and state[2:4] == at[other][2:4]:
                    return 3, worker, other, ""
        busy = [worker for worker, state in enumerate(at) if state[1] != "stop"]
        if not busy:
            return (4, 0, 0, situation[1][0][1][0][0]) if situation[1] else None
        if not self.moves(situation, bound) and not self.held_up(situation, bound):
            return 1, busy[0], busy[0], ""
        return None

    def explore(self, bound):
        """(what explore answers, what trouble answers)."""
        listed = [(self.first(), [])]
        seen = {self.first()}
        moves_made = longest = held = 0
        for situation, path in listed:
            if len(listed) > 1000:
                return [-6], [-6]
            met = self.trouble(situation, bound)
            if met:
                told = [met[0], met[1], met[2]] + label(met[3]) + [len(path)]
                for worker, deed, name in path:
                    told += [worker, deed] + label(name)
                return [0], told
            longest = max([longest] + [len(row) for pair, row in situation[1]])
            held += self.held_up(situation, bound)
            for worker, deed, name, goal in self.moves(situation, bound):
                moves_made += 1
                if goal not in seen:
                    seen.add(goal)
                    listed.append((goal, path + [(worker, deed, name)]))
        return [1, len(listed), moves_made, longest, held], [-5]

    def enough(self):
        for bound in range(1, 9):
            found = self.explore(bound)[0]
            if found[0] != 1:
                return [-5]
            if found[4] == 0:
                return [bound]
        return [-5]

    def walk(self, bound, numbers):
        """(how many moves were made, the situation)."""
        situation, made = self.first(), 0
        for number in numbers:
            moves = self.moves(situation, bound)
            if self.trouble(situation, bound) or not moves:
                break
            situation = moves[number % len(moves)][3]
            made += 1
        return made, situation

    def walk_answer(self, bound, numbers):
        made, situation = self.walk(bound, numbers)
        names = [[state[0] for state in told[2]] for told in self.parts]
        told = [made] + [row.index(name) for row, name in zip(names, situation[0])]
        return told + waits(*[f"{x}>{y} " + " ".join(m[0] for m in queue) for (x, y), queue in situation[1]])

    def after_answer(self, bound, numbers):
        situation = self.walk(bound, numbers)[1]
        met = self.trouble(situation, bound)
        moves = [f"{worker}{'!?'[deed - 1]}{name}" for worker, deed, name, goal in self.moves(situation, bound)]
        return [met[0] if met else 0] + way(*moves)


class Numbers:
    """Numbers that look mixed and are the same each time."""

    def __init__(self, seed):
        self.seed = seed

    def below(self, limit):
        self.seed = (self.seed * 6364136223846793005 + 1442695040888963407) % 2 ** 64
        return (self.seed >> 33) % limit

    def choose(self, row):
        return row[self.below(len(row))]


LABELS = ["a", "ab", "b", "B", "a1"]
RANGES = [[], [], [], ["flag"], ["num 0 5"], ["num -2 9"], ["text 3"], ["text 9"], ["num 0 5", "flag"]]
HANDED = [[], [], [], [], ["X"], ["X", "Y"], ["Y", "X"]]


def mixed_part(numbers, worker, routes, size):
    """A part of so many states and a stop, over these routes (tuples of two seats)."""
    names = [f"S{number}" for number in range(size)] + ["E"]
    states = []
    for name in names[:-1]:
        x, y = numbers.choose(routes)
        labels = [text for text in LABELS if numbers.below(3) == 0] or ["a"]
        if numbers.below(2):
            labels = labels[::-1]
        branches = [(text, numbers.choose(RANGES), numbers.choose(HANDED), numbers.choose(names)) for text in labels]
        states.append((name, numbers.choose(["send", "recv"]), x, y, branches))
    return (worker, numbers.choose(names[:size]), states + [("E", "stop", "", "", [])])


def mixed_company(seed):
    """Parts by themselves, or pairs of mirrored parts, some with one thing changed."""
    numbers = Numbers(seed)
    parts = []
    if numbers.below(2):
        for worker in range(1 + numbers.below(4)):
            routes = [("A", "B"), ("B", "A"), ("A", "C")][:1 + numbers.below(3)]
            parts.append(mixed_part(numbers, f"W{worker}", routes, 1 + numbers.below(3)))
        return parts
    for pair in range(1 + numbers.below(2)):
        routes = [(f"L{pair}", f"R{pair}"), (f"R{pair}", f"L{pair}")]
        told = mixed_part(numbers, f"L{pair}", routes, 1 + numbers.below(5))
        parts += [told, mirrored(told, f"R{pair}")]
    if numbers.below(3) == 0:
        parts.append(mixed_part(numbers, "M", [("L0", "R0"), ("A", "B")], 1 + numbers.below(3)))
    return parts
