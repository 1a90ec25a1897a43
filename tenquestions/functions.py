"""Functions of the ten variables, and how one is made from others.

A function is a list with a number for each case: 0 where it says no, 1 where it says yes.
Such a list is never changed once it is made, so one list may stand for a function in several places.
"""

VARIABLES = 10
CASES = 1024

# The numbers of "two" by which a case is yes if either says yes, if both do, and if the first alone does.
EITHER = 14
BOTH = 8
FIRST_ALONE = 4


def bit(number, place):
    """The bit of the number that is worth 2 to the power of the place."""
    return (number >> place) & 1


def everywhere(said):
    """The function that says the same in each case."""
    return [said] * CASES


def variable(v):
    """The function that says yes in the cases in which the variable is yes."""
    return [bit(case, v) for case in range(CASES)]


def opposite(function):
    """The function that says yes where the other says no."""
    return [1 - said for said in function]


def joined(op, first, second):
    """The function that says, where the first says x and the second y, bit 2 x + y of op."""
    said = [bit(op, place) for place in range(4)]
    return [said[2 * x + y] for x, y in zip(first, second)]


def chosen(asked, if_yes, if_no):
    """The function that says what if_yes says where asked says yes, else what if_no says."""
    return [y if x == 1 else n for x, y, n in zip(asked, if_yes, if_no)]


def case_with(case, v, said):
    """The case that is like this one, but that the variable is as said."""
    worth = 1 << v
    if said == 1:
        return case | worth
    return (case | worth) - worth


def fixed(function, v, said):
    """The function that says what the other says if the variable is as said."""
    return [function[case_with(case, v, said)] for case in range(CASES)]


def for_either(function, v):
    """The function that says whether the other says yes for v no, or for v yes."""
    return joined(EITHER, fixed(function, v, 0), fixed(function, v, 1))


def for_both(function, v):
    """The function that says whether the other says yes for v no and for v yes."""
    return joined(BOTH, fixed(function, v, 0), fixed(function, v, 1))


def put_for(function, v, other):
    """The function that says what the one says if the variable is what the other says."""
    return [function[case_with(case, v, said)] for case, said in enumerate(other)]


def how_many(function):
    """In how many cases the function says yes."""
    return sum(function)


def first_yes(function, start):
    """The least case from the start on in which the function says yes; None if there's none."""
    for case in range(start, CASES):
        if function[case] == 1:
            return case
    return None


def first_outside(function, other):
    """The least case in which the function says yes, the other no; None if there's none."""
    return first_yes(joined(FIRST_ALONE, function, other), 0)


def does_matter(function, v):
    """Whether the function says yes in one, no in the other of two cases that differ in v alone."""
    for case in range(CASES):
        if function[case] != function[case_with(case, v, 1)]:
            return True
    return False


def mattering(function):
    """The variables that matter to the function, rising."""
    return [v for v in range(VARIABLES) if does_matter(function, v)]
