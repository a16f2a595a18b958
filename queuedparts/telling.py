"""How things are told in an answer: as numbers, one behind another."""

from queuedparts.play import label_of


def told(text):
    """A text with its length."""
    return [len(text)] + [ord(letter) for letter in text]


def in_a_row(rows):
    """How many rows there are, and their numbers."""
    numbers = [len(rows)]
    for row in rows:
        numbers.extend(row)
    return numbers


def moves_told(moves):
    return in_a_row([move_told(move) for move in moves])


def move_told(move):
    return [move.worker, move.deed] + told(label_of(move.choice.message))


def queues_told(play, situation):
    # A play has its routes in the order in which they are to be told.
    busy = [number for number, messages in enumerate(situation.waiting) if messages]
    return in_a_row([queue_told(play.routes[number], situation.waiting[number]) for number in busy])


def queue_told(route, messages):
    return told(route[0]) + told(route[1]) + in_a_row([told(label_of(message)) for message in messages])
