"""Ties: steps that are added to an order, and next steps that are taken away."""

from linemix.errors import NotHeld, NotOpen, OtherSize
from linemix.orders import Order, steps_of
from linemix.places import place_of


def tied(order, *steps):
    """Return the order with these ties, told one behind the other."""
    result = order
    for low, high in steps_of(steps, order.size):
        if not result.are_open(low, high):
            raise NotOpen(low, high)
        result = Order(result.size, result.steps_told() + ((low, high),))
    return result


def check_open(order, x, y, names):
    """Raise BadPlace, with the name of the wrong one, or NotOpen unless x and y are places that are open."""
    place_of(x, order.size, names[0])
    place_of(y, order.size, names[1])
    if not order.are_open(x, y):
        raise NotOpen(x, y)


def _is_single(order, low, high):
    """Tell whether low and high are open and their tie adds no other step."""
    if not order.are_open(low, high):
        return False
    keeps_below = order.belows[low] | order.belows[high] == order.belows[high]
    keeps_above = order.aboves[high] | order.aboves[low] == order.aboves[low]
    return keeps_below and keeps_above


def single_ties(order):
    """Return the tuple of all (u, v), u and v open, whose tie is single, ascending."""
    places = range(order.size)
    return tuple([(low, high) for low in places for high in places if _is_single(order, low, high)])


def check_held(order, other):
    """Raise OtherSize or NotHeld unless the other order has the same places and all steps of this one."""
    if other.size != order.size:
        raise OtherSize(other.size)
    for low, high in order.steps_told():
        if (low, high) not in other:
            raise NotHeld(low, high)


def tie_path(order, other):
    """Return a list of ties that lead from order to other, each one single where it is added."""
    check_held(order, other)
    path = []
    reached = order
    while reached != other:
        # Some single tie is always a step of the other order, so no choice leads astray.
        ahead = [step for step in single_ties(reached) if step in other]
        path.append(ahead[0])
        reached = tied(reached, ahead[0])
    return path


def untied(order, u, v):
    """Return the order without the next step (u, v)."""
    low = place_of(u, order.size, "u")
    high = place_of(v, order.size, "v")
    if (low, high) not in order.next_steps():
        raise NotOpen(low, high)
    return Order(order.size, [step for step in order.steps_told() if step != (low, high)])
