"""Lines of calls that the tests begin with, each with the function that it makes."""

import random

from reckoning import AND, AND_NOT, BIGGEST, GREATEST, OR, PLACES, RISING, XOR, yes

# In register 5: at least two of the variables 0, 4 and 9.
MAJORITY = [
    ("var", 0, 0), ("var", 1, 4), ("var", 2, 9),
    ("two", 3, AND, 0, 1), ("two", 4, OR, 0, 1), ("choose", 5, 2, 4, 3),
]

# In register 6: the variables 0 and 1 are both yes, or 2 and 3 are.
PAIRS = [
    ("var", 0, 0), ("var", 1, 1), ("two", 4, AND, 0, 1),
    ("var", 2, 2), ("var", 3, 3), ("two", 5, AND, 2, 3), ("two", 6, OR, 4, 5),
]

# In register 0: an odd number of the ten variables.
PARITY = [("var", 0, 0)]
for v in range(1, 10):
    PARITY += [("var", 1, v), ("two", 0, XOR, 0, 1)]

# In register 0: all of the ten variables.
ALL_TEN = [("var", 0, 0)]
for v in range(1, 10):
    ALL_TEN += [("var", 1, v), ("two", 0, AND, 0, 1)]


def majority(m):
    return yes(m, 0) + yes(m, 4) + yes(m, 9) >= 2


def pairs(m):
    return (yes(m, 0) and yes(m, 1)) or (yes(m, 2) and yes(m, 3))


def parity(m):
    return sum(yes(m, v) for v in range(10)) % 2 == 1


def one_case(case):
    """Calls that put into register 0 the function that says yes in this case alone."""
    calls = [("const", 0, 1)]
    for v in range(10):
        calls += [("var", 1, v), ("two", 0, AND if yes(case, v) else AND_NOT, 0, 1)]
    return calls


def shuffled(chance):
    """An order of the ten variables, by chance."""
    return chance.sample(RISING, 10)


def random_given(chance, place):
    """A number or an order, by chance, that is right in such a place."""
    if place == "order":
        return shuffled(chance)
    if place == "number":
        return chance.choice([chance.randint(0, 1023), chance.randint(0, 1100), BIGGEST])
    return chance.randint(0, GREATEST[place])


def wrong_given(chance, place):
    """A number or a list, by chance, that is refused in such a place; None if there's none."""
    if place == "order":
        order = shuffled(chance)
        return chance.choice([
            [], order[:-1], order + [chance.randint(0, 9)], order[:-1] + [order[0]],
            order[1:] + [10], order * 4, order[1:] + [BIGGEST]])
    if place == "number":
        return None
    return GREATEST[place] + chance.choice([1, 2, 16, 2**32])


def random_call(chance, name, wrong=0.0):
    """A call of that name, by chance; a share of them with a wrong number or list."""
    given = [random_given(chance, place) for place in PLACES[name]]
    if chance.random() < wrong:
        at = chance.randrange(len(given))
        refused = wrong_given(chance, PLACES[name][at])
        given[at] = given[at] if refused is None else refused
    return (name, *given)


def random_calls(seed, most, names, wrong=0.0):
    """A line of so many calls of these names, by chance, behind the ten variables in registers."""
    chance = random.Random(seed)
    calls = [("var", r, r % 10) for r in range(16)]
    chance.shuffle(calls)
    while len(calls) < most:
        calls.append(random_call(chance, chance.choice(names), wrong))
    return calls
