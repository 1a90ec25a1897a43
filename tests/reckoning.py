"""What the tests share: lines of calls, and a reckoning of their own.

The reckoning keeps each function as the set of the cases in which it says yes; it draws nothing
from the package but `answers`.
"""

from tenquestions.desk import answers

BIGGEST = 2**63 - 1
ALL_CASES = frozenset(range(1024))
NUMBERS = {"const": 0, "var": 1, "not": 2, "two": 3, "choose": 4, "fix": 5, "some": 6, "all": 7}

# Of each number of a call: what it is. By that, the greatest that the document takes.
PLACES = {
    "const": ("register", "z"),
    "var": ("register", "variable"),
    "not": ("register", "register"),
    "two": ("register", "op", "register", "register"),
    "choose": ("register", "register", "register", "register"),
    "fix": ("register", "register", "variable", "z"),
    "some": ("register", "register", "variable"),
    "all": ("register", "register", "variable"),
}
GREATEST = {"register": 15, "variable": 9, "z": 1, "op": 15}

AND = 8
AND_NOT = 4
FIRST_ALONE = 12


def line(calls):
    """The list of whole numbers for calls such as ("var", 0, 3)."""
    numbers = []
    for name, *rest in calls:
        numbers += [NUMBERS[name], *rest]
    return numbers


def told(calls):
    """What is answered, a list for each call."""
    given = answers(line(calls))
    found = []
    at = 0
    while at < len(given):
        found.append(given[at + 1:at + 1 + given[at]])
        assert len(found[-1]) == given[at], given
        at += 1 + given[at]
    assert len(found) == len(calls), (calls, given)
    return found


def with_value(case, v, z):
    """The case like this one in which variable v is z."""
    return case - case // 2**v % 2 * 2**v + z * 2**v


def cases_where(says_yes):
    """The set of the cases of which a Python function says yes."""
    return frozenset(case for case in ALL_CASES if says_yes(case))


def yes(case, v):
    """Whether variable v is yes in the case."""
    return case // 2**v % 2 == 1


class Reckoning:
    """The sixteen registers, each the set of the cases in which its function says yes."""

    def __init__(self):
        self.sets = [frozenset()] * 16

    def call(self, name, *numbers):
        """Carries out a call; answers what the document says it answers."""
        if any(n > GREATEST[place] for n, place in zip(numbers, PLACES[name])):
            return [-1]
        made = getattr(self, "made_by_" + name)(*numbers[1:])
        self.sets[numbers[0]] = frozenset(made)
        return [len(made)]

    def made_by_const(self, z):
        return ALL_CASES if z else frozenset()

    def made_by_var(self, v):
        return cases_where(lambda m: yes(m, v))

    def made_by_not(self, a):
        return ALL_CASES - self.sets[a]

    def made_by_two(self, op, a, b):
        first, second = self.sets[a], self.sets[b]
        made = set()
        if op in (1, 3, 5, 7, 9, 11, 13, 15):
            made |= ALL_CASES - first - second
        if op in (2, 3, 6, 7, 10, 11, 14, 15):
            made |= second - first
        if op in (4, 5, 6, 7, 12, 13, 14, 15):
            made |= first - second
        if op >= 8:
            made |= first & second
        return made

    def made_by_choose(self, a, b, c):
        asked = self.sets[a]
        return (asked & self.sets[b]) | (self.sets[c] - asked)

    def made_by_fix(self, a, v, z):
        return cases_where(lambda m: with_value(m, v, z) in self.sets[a])

    def made_by_some(self, a, v):
        found = self.sets[a]
        return found | {m ^ 2**v for m in found}

    def made_by_all(self, a, v):
        found = self.sets[a]
        return found & {m ^ 2**v for m in found}


def cases_read(calls, a):
    """The cases in which register a says yes behind the calls, asked of the program.

    In each case alone: the function and that case's ten answers, joined by and, say yes in one
    case or in none. A line asks sixteen cases, by 47 calls behind the ones handed in.
    """
    found = set()
    for high in range(64):
        asking = [("two", 15, FIRST_ALONE, a, a)]
        for v in range(4, 10):
            asking += [("var", 14, v), ("two", 15, AND if yes(high * 16, v) else AND_NOT, 15, 14)]
        asking += [("var", v, v) for v in range(4)]
        leaves = {}
        ask_below(asking, leaves, 15, 3, high * 16)
        given = told(list(calls) + asking)[len(calls):]
        for at, case in leaves.items():
            assert given[at] in ([0], [1]), given[at]
            if given[at] == [1]:
                found.add(case)
    return frozenset(found)


def ask_below(asking, leaves, source, v, case):
    """Adds the calls that split the source by variables v to 0, and where each case's count is."""
    for z in (0, 1):
        asking.append(("two", 4 + v, AND if z else AND_NOT, source, v))
        if v == 0:
            leaves[len(asking) - 1] = case + z
        else:
            ask_below(asking, leaves, 4 + v, v - 1, case + z * 2**v)
