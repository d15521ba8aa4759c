"""Orders as texts."""

from linemix.errors import BadSteps, BadText, HasRing
from linemix.orders import MOST_PLACES, Order


def order_text(order):
    """Return the text of an order."""
    steps = [f"{low} < {high}" for low, high in order.next_steps()]
    return "\n".join([f"order {order.size}", *steps])


def _number_in(word):
    """Return the number from 0 to 16 that a word tells, None if it tells none."""
    # Compared as words: so signs and leading zeros are refused, and words of any length are read.
    for number in range(MOST_PLACES + 1):
        if word == str(number):
            return number
    return None


def _size_in(line):
    """Return the size that the first line tells."""
    words = line.split(" ")
    size = _number_in(words[1]) if len(words) == 2 and words[0] == "order" else None
    if size is None or size == 0:
        raise BadText(1)
    return size


def _step_in(line):
    """Return the tuple that a line "U < V" tells, an empty one for another line; None stands for no number."""
    words = line.split(" ")
    if len(words) != 3 or words[1] != "<":
        return ()
    return _number_in(words[0]), _number_in(words[2])


def _order_in(size, lines):
    """Return the order of the steps that the lines tell."""
    return Order(size, [_step_in(line) for line in lines])


def order_from(text):
    """Return the order that a text tells."""
    if not isinstance(text, str):
        raise BadText(0)
    lines = text.split("\n")
    if len(lines) > 1 and lines[-1] == "":
        lines = lines[:-1]
    size = _size_in(lines[0])
    further = lines[1:]
    try:
        return _order_in(size, further)
    except (BadSteps, HasRing) as wrong:
        raise BadText(wrong.place + 2) from wrong
