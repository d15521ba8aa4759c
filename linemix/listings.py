"""What a desk holds, as rows of text."""

def _row(label, number):
    """Return a row of a label and a number that is told already."""
    return f"{label:<14}{number:>11}"


def _with_commas(number):
    """Return an integer as text, with a comma between groups of three digits."""
    return f"{number:,}"


def count_line(x, y, number):
    """Return the row of one count."""
    return _row(f"{x:>5} over {y:<3}", _with_commas(number))


def _counts_told(label, counts):
    """Return the rows of a label and of all counts."""
    return [_row(label, _with_commas(len(counts)))] + [count_line(x, y, number) for x, y, number in counts.rows]


def _fraction_told(fraction):
    """Return a fraction as text, a whole number without its bottom."""
    top, bottom = fraction
    return _with_commas(top) if bottom == 1 else f"{_with_commas(top)}/{_with_commas(bottom)}"


def listing(desk):
    """Return the text that tells what the desk holds, its cost and its worth."""
    order = desk.now
    rows = [_row("places", _with_commas(order.size)), _row("steps", _with_commas(len(order.steps_told())))]
    rows = rows + [f"{u:>5} < {v}" for u, v in order.next_steps()]
    rows = rows + _counts_told("tolls", desk.tolls_now) + _counts_told("weights", desk.weights_now)
    ends = [_row("cost", _fraction_told(desk.cost_now())), _row("worth", _with_commas(desk.worth_now()))]
    return "\n".join(rows + ends)
