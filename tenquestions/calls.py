"""The calls on the registers: what each is told, what it refuses, and which function it makes.

What a call is told is a dict: its numbers by the names that they have in the document.
"""

from tenquestions.functions import chosen, everywhere, fixed, for_both, for_either, how_many
from tenquestions.functions import joined, opposite, variable

REGISTERS = 16

# The greatest number that a call takes by each name; a greater one is refused.
GREATEST = {"r": 15, "a": 15, "b": 15, "c": 15, "v": 9, "z": 1, "op": 15}


def new_registers():
    """The registers before the first call: each one's function says no everywhere."""
    return [everywhere(0)] * REGISTERS


def make_const(registers, told):
    return everywhere(told["z"])


def make_var(registers, told):
    return variable(told["v"])


def make_not(registers, told):
    return opposite(registers[told["a"]])


def make_two(registers, told):
    return joined(told["op"], registers[told["a"]], registers[told["b"]])


def make_choose(registers, told):
    return chosen(registers[told["a"]], registers[told["b"]], registers[told["c"]])


def make_fix(registers, told):
    return fixed(registers[told["a"]], told["v"], told["z"])


def make_some(registers, told):
    return for_either(registers[told["a"]], told["v"])


def make_all(registers, told):
    return for_both(registers[told["a"]], told["v"])


# By its number, of each call: the names of its numbers, and what makes its function.
CALLS = (
    (("r", "z"), make_const),
    (("r", "v"), make_var),
    (("r", "a"), make_not),
    (("r", "op", "a", "b"), make_two),
    (("r", "a", "b", "c"), make_choose),
    (("r", "a", "v", "z"), make_fix),
    (("r", "a", "v"), make_some),
    (("r", "a", "v"), make_all),
)


def length_of(number):
    """How many numbers stand behind the number of a call."""
    return len(CALLS[number][0])


def is_refused(told):
    """Whether one of a call's numbers is above the greatest that the call takes."""
    return any([told[name] > GREATEST[name] for name in told])


def answered(registers, number, numbers):
    """What a call answers; the function that it makes is put into its register."""
    told = dict(zip(CALLS[number][0], numbers))
    if is_refused(told):
        return [-1]
    make = CALLS[number][1]
    function = make(registers, told)
    registers[told["r"]] = function
    return [how_many(function)]
