"""The calls on the registers: what each is told, what it refuses, and what it makes or answers.

What a call is told is a dict: its numbers by the names that they have in the document.
"""

from tenquestions.diagrams import best_order, how_many_nodes, is_order, nodes_told, numbered_parts
from tenquestions.diagrams import place_of, whole_part
from tenquestions.functions import chosen, everywhere, first_outside, first_yes, fixed, for_both
from tenquestions.functions import for_either, how_many, joined, mattering, opposite, put_for, variable

REGISTERS = 16

# The greatest number that a call takes by each name; a greater one is refused. The m of "first" may
# be any number, so it goes by a name of its own, "from".
GREATEST = {"r": 15, "a": 15, "b": 15, "c": 15, "v": 9, "z": 1, "op": 15, "m": 1023}

# The number of the one call that has a list behind its numbers.
DIAGRAM = 13

# "best" takes a function to which at most so many variables matter.
MOST_TO_ORDER = 5


def new_registers():
    """The registers before the first call: each one's function says no everywhere."""
    return [everywhere(0)] * REGISTERS


def make_const(registers, told):
    return everywhere(told["z"])


def make_var(registers, told):
    return variable(told["v"])


def make_not(registers, told):
    return opposite(registers[told["a"]])


def make_two(registers, told):
    return joined(told["op"], registers[told["a"]], registers[told["b"]])


def make_choose(registers, told):
    return chosen(registers[told["a"]], registers[told["b"]], registers[told["c"]])


def make_fix(registers, told):
    return fixed(registers[told["a"]], told["v"], told["z"])


def make_some(registers, told):
    return for_either(registers[told["a"]], told["v"])


def make_all(registers, told):
    return for_both(registers[told["a"]], told["v"])


def make_put(registers, told):
    return put_for(registers[told["a"]], told["v"], registers[told["b"]])


def with_length(numbers):
    """A list as it's answered: with how many numbers it has ahead of it."""
    return [len(numbers)] + numbers


def answer_value(registers, told):
    return [registers[told["a"]][told["m"]]]


def answer_count(registers, told):
    return [how_many(registers[told["a"]])]


def answer_first(registers, told):
    case = first_yes(registers[told["a"]], told["from"])
    if case is None:
        return [-5]
    return [case]


def answer_matters(registers, told):
    variables = mattering(registers[told["a"]])
    return [len(variables)] + with_length(variables)


def answer_diagram(registers, told):
    order = told["o"]
    whole = whole_part(registers[told["a"]], order)
    numbers = numbered_parts(whole)
    begin = place_of(whole, numbers)
    return [len(numbers)] + with_length([begin]) + with_length(nodes_told(numbers, order))


def answer_best(registers, told):
    function = registers[told["a"]]
    variables = mattering(function)
    if len(variables) > MOST_TO_ORDER:
        return [-6]
    order = best_order(function, variables)
    return [how_many_nodes(function, order)] + with_length(order)


def answer_within(registers, told):
    case = first_outside(registers[told["a"]], registers[told["b"]])
    if case is None:
        return [1]
    return [0] + with_length([case])


# By its number, of each call: the names of its numbers, and what makes the function that it puts
# into register r or, if it has no r, what makes its answer.
CALLS = (
    (("r", "z"), make_const),
    (("r", "v"), make_var),
    (("r", "a"), make_not),
    (("r", "op", "a", "b"), make_two),
    (("r", "a", "b", "c"), make_choose),
    (("r", "a", "v", "z"), make_fix),
    (("r", "a", "v"), make_some),
    (("r", "a", "v"), make_all),
    (("r", "a", "v", "b"), make_put),
    (("a", "m"), answer_value),
    (("a",), answer_count),
    (("a", "from"), answer_first),
    (("a",), answer_matters),
    (("a", "length"), answer_diagram),
    (("a",), answer_best),
    (("a", "b"), answer_within),
)


def end_of_call(calls, at):
    """Where the call that begins at this place of the line ends."""
    number = calls[at]
    end = at + 1 + len(CALLS[number][0])
    if number == DIAGRAM:
        return end + calls[end - 1]
    return end


def told_by(number, numbers):
    """What the call is told by the numbers behind its own."""
    told = dict(zip(CALLS[number][0], numbers))
    if number == DIAGRAM:
        told["o"] = numbers[len(told):]
    return told


def is_refused(told):
    """Whether one of a call's numbers is above the greatest that the call takes, or o is no order."""
    if "o" in told and not is_order(told["o"]):
        return True
    return any([told[name] > GREATEST[name] for name in told if name in GREATEST])


def answered(registers, number, numbers):
    """What a call answers; the function that it makes, if any, is put into its register."""
    told = told_by(number, numbers)
    if is_refused(told):
        return [-1]
    carry_out = CALLS[number][1]
    found = carry_out(registers, told)
    if "r" in told:
        registers[told["r"]] = found
        return [how_many(found)]
    return found
