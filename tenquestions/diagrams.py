"""Diagrams of functions by orders of the variables, and the best order.

A part is a tuple of what the function says when the first variables of the order are fixed: its first
half for the next variable no, its second half for yes. A part of one number is no or yes everywhere.
"""

from tenquestions.functions import VARIABLES


def is_order(numbers):
    """Whether the list has each of the ten variables once."""
    return sorted(numbers) == list(range(VARIABLES))


def half(part, said):
    """What the part becomes when its next variable is as said."""
    middle = len(part) // 2
    if said == 1:
        return part[middle:]
    return part[:middle]


def shortened(part):
    """The part without those of its next variables that don't matter: alike parts are the same then."""
    while len(part) > 1 and half(part, 0) == half(part, 1):
        part = half(part, 0)
    return part


def whole_part(function, order):
    """The part that is the function itself, by an order of all the variables that matter to it."""
    cases = [0]
    # What is doubled last is halved first: so from the order's end to its beginning.
    for v in reversed(order):
        cases = cases + [case + (1 << v) for case in cases]
    return shortened(tuple([function[case] for case in cases]))


def gone_on(part, said):
    """The part where one goes on from the part's node when its variable is as said."""
    return shortened(half(part, said))


def number_parts(part, numbers):
    """Numbers the part's node and those that are first met from it: no's side, then yes's."""
    if len(part) > 1 and part not in numbers:
        numbers[part] = len(numbers)
        number_parts(gone_on(part, 0), numbers)
        number_parts(gone_on(part, 1), numbers)


def numbered_parts(whole):
    """The parts that have a node, rising by the node's number, each with that number."""
    numbers = {}
    number_parts(whole, numbers)
    return numbers


def place_of(part, numbers):
    """Where one goes on at the part, as it's told: 0 no, 1 yes, else 2 more than its node's number."""
    if len(part) == 1:
        return part[0]
    return numbers[part] + 2


def variable_of(part, order):
    """The variable of the part's node: the part has the order's last variables left."""
    left = len(part).bit_length() - 1
    return order[len(order) - left]


def nodes_told(numbers, order):
    """Of each node in turn: its variable, where one goes on with no, with yes."""
    told = []
    for part in numbers:
        told.append(variable_of(part, order))
        told.append(place_of(gone_on(part, 0), numbers))
        told.append(place_of(gone_on(part, 1), numbers))
    return told


def how_many_nodes(function, order):
    """How many nodes the function's diagram has, by an order of all the variables that matter to it."""
    return len(numbered_parts(whole_part(function, order)))


def orders_of(variables):
    """All orders of the variables; if these rise, the lesser by the first that differs stands ahead."""
    orders = [[]]
    for place in range(len(variables)):
        longer = []
        for order in orders:
            longer.extend([order + [v] for v in variables if v not in order])
        orders = longer
    return orders


def best_order(function, variables):
    """The best order of the variables, which are those that matter to the function, rising."""
    # Of several orders with the fewest nodes min takes the first.
    return min(orders_of(variables), key=lambda order: how_many_nodes(function, order))
