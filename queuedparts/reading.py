"""From the bytes of a text to a part, with the faults in their order."""

from queuedparts.faults import FORM_TOO_LONG, TOO_LONG, Fault
from queuedparts.grammar import read_part
from queuedparts.names import check_names
from queuedparts.oneform import one_form
from queuedparts.tokens import tokens_of

MOST_BYTES = 4096


def part_of(source):
    """The part that the bytes tell; raises the first Fault if they tell none."""
    if len(source) > MOST_BYTES:
        raise Fault(TOO_LONG, MOST_BYTES)
    part = read_part(tokens_of(source))
    check_names(part)
    if len(one_form(part)) > MOST_BYTES:
        raise Fault(FORM_TOO_LONG, 0)
    return part
