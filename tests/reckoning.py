"""What the tests share: lines of calls, and a reckoning of their own.

The reckoning keeps each function as the set of the cases in which it says yes; it draws nothing
from the package but `answers`.
"""

from itertools import permutations

from tenquestions.desk import answers

BIGGEST = 2**63 - 1
ALL_CASES = frozenset(range(1024))
NAMES = ("const", "var", "not", "two", "choose", "fix", "some", "all",
         "put", "value", "count", "first", "matters", "diagram", "best", "within")
NUMBERS = {name: number for number, name in enumerate(NAMES)}

# Of each number of a call: what it is. By that, the greatest that the document takes.
PLACES = {
    "const": ("register", "z"),
    "var": ("register", "variable"),
    "not": ("register", "register"),
    "two": ("register", "op", "register", "register"),
    "choose": ("register", "register", "register", "register"),
    "fix": ("register", "register", "variable", "z"),
    "some": ("register", "register", "variable"),
    "all": ("register", "register", "variable"),
    "put": ("register", "register", "variable", "register"),
    "value": ("register", "case"),
    "count": ("register",),
    "first": ("register", "number"),
    "matters": ("register",),
    "diagram": ("register", "order"),
    "best": ("register",),
    "within": ("register", "register"),
}
GREATEST = {"register": 15, "variable": 9, "z": 1, "op": 15, "case": 1023, "number": BIGGEST}
RISING = list(range(10))

AND = 8
AND_NOT = 4
XOR = 6
OR = 14
FIRST_ALONE = 12


def line(calls):
    """The list of whole numbers for calls such as ("var", 0, 3) or ("diagram", 0, order)."""
    numbers = []
    for name, *rest in calls:
        numbers.append(NUMBERS[name])
        for given in rest:
            numbers += [len(given), *given] if isinstance(given, list) else [given]
    return numbers


def told(calls):
    """What is answered, a list for each call."""
    assert len(calls) <= 100, len(calls)
    given = answers(line(calls))
    found = []
    at = 0
    while at < len(given):
        found.append(given[at + 1:at + 1 + given[at]])
        assert len(found[-1]) == given[at], given
        at += 1 + given[at]
    assert len(found) == len(calls), (calls, given)
    return found


def last_told(calls):
    """What the last of the calls answers."""
    return told(calls)[-1]


def with_value(case, v, z):
    """The case like this one in which variable v is z."""
    return case - case // 2**v % 2 * 2**v + z * 2**v


def cases_where(says_yes):
    """The set of the cases of which a Python function says yes."""
    return frozenset(case for case in ALL_CASES if says_yes(case))


def yes(case, v):
    """Whether variable v is yes in the case."""
    return case // 2**v % 2 == 1


def is_wrong(place, given):
    """Whether what stands in such a place is one that the document refuses with -1."""
    if place == "order":
        return sorted(given) != RISING
    return given > GREATEST[place]


class Reckoning:
    """The sixteen registers, each the set of the cases in which its function says yes."""

    def __init__(self):
        self.sets = [frozenset()] * 16

    def call(self, name, *numbers):
        """Carries out a call; answers what the document says it answers."""
        if any(is_wrong(place, given) for given, place in zip(numbers, PLACES[name])):
            return [-1]
        if NUMBERS[name] > NUMBERS["put"]:
            return getattr(self, "answer_to_" + name)(*numbers)
        made = getattr(self, "made_by_" + name)(*numbers[1:])
        self.sets[numbers[0]] = frozenset(made)
        return [len(made)]

    def made_by_const(self, z):
        return ALL_CASES if z else frozenset()

    def made_by_var(self, v):
        return cases_where(lambda m: yes(m, v))

    def made_by_not(self, a):
        return ALL_CASES - self.sets[a]

    def made_by_two(self, op, a, b):
        first, second = self.sets[a], self.sets[b]
        made = set()
        if op in (1, 3, 5, 7, 9, 11, 13, 15):
            made |= ALL_CASES - first - second
        if op in (2, 3, 6, 7, 10, 11, 14, 15):
            made |= second - first
        if op in (4, 5, 6, 7, 12, 13, 14, 15):
            made |= first - second
        if op >= 8:
            made |= first & second
        return made

    def made_by_choose(self, a, b, c):
        asked = self.sets[a]
        return (asked & self.sets[b]) | (self.sets[c] - asked)

    def made_by_fix(self, a, v, z):
        return cases_where(lambda m: with_value(m, v, z) in self.sets[a])

    def made_by_some(self, a, v):
        found = self.sets[a]
        return found | {m ^ 2**v for m in found}

    def made_by_all(self, a, v):
        found = self.sets[a]
        return found & {m ^ 2**v for m in found}

    def made_by_put(self, a, v, b):
        found, asked = self.sets[a], self.sets[b]
        return cases_where(lambda m: with_value(m, v, 1 if m in asked else 0) in found)

    def answer_to_value(self, a, m):
        return [1 if m in self.sets[a] else 0]

    def answer_to_count(self, a):
        return [len(self.sets[a])]

    def answer_to_first(self, a, m):
        return [min((case for case in self.sets[a] if case >= m), default=-5)]

    def answer_to_matters(self, a):
        found = mattering(self.sets[a])
        return [len(found), len(found), *found]

    def answer_to_diagram(self, a, o):
        begin, nodes = diagram_of(self.sets[a], o)
        return [len(nodes), 1, begin, 3 * len(nodes)] + [told for node in nodes for told in node]

    def answer_to_best(self, a):
        found = mattering(self.sets[a])
        if len(found) > 5:
            return [-6]
        fewest, order = min((how_many_parts(self.sets[a], order), order)
                            for order in permutations(found))
        return [fewest, len(order), *order]

    def answer_to_within(self, a, b):
        outside = self.sets[a] - self.sets[b]
        return [0, 1, min(outside)] if outside else [1]


def mattering(cases):
    """The variables that matter to the function that says yes in these cases, rising."""
    return [v for v in range(10) if {m ^ 2**v for m in cases} != cases]


# For diagrams a function is one whole number: bit m is 1 if it says yes in case m.
EVERYWHERE = 2**1024 - 1
YES_CASES = [sum(1 << m for m in range(1024) if yes(m, v)) for v in range(10)]


def as_number(cases):
    """The function as one whole number."""
    return sum(1 << m for m in cases)


def fixed(number, v, z):
    """The function that it becomes when variable v is z."""
    if z:
        found = number & YES_CASES[v]
        return found | found >> 2**v
    found = number & (EVERYWHERE - YES_CASES[v])
    return found | found << 2**v


def diagram_of(cases, order):
    """Where the diagram by the order begins, and its nodes, as the document defines them."""
    numbers = {}
    nodes = []

    def met(part):
        if part in (0, EVERYWHERE):
            return 1 if part else 0
        if part not in numbers:
            numbers[part] = len(nodes)
            v = next(v for v in order if fixed(part, v, 0) != fixed(part, v, 1))
            node = [v, None, None]
            nodes.append(node)
            node[1] = met(fixed(part, v, 0))
            node[2] = met(fixed(part, v, 1))
        return numbers[part] + 2

    return met(as_number(cases)), nodes


def how_many_parts(cases, order):
    """How many different parts, by the order, are neither no nor yes everywhere: one node for each.

    The parts are all that the function becomes when none, one, .. all of the order's first
    variables are fixed. Variables that don't matter may be left out of the order.
    """
    parts = {as_number(cases)}
    found = set(parts)
    for v in order:
        parts = {fixed(part, v, z) for part in parts for z in (0, 1)}
        found |= parts
    return len(found - {0, EVERYWHERE})


def told_diagram(answer):
    """An answered diagram: where it begins, and its nodes; fails if it's not of the form told."""
    how_many, one, begin, length = answer[:4]
    assert one == 1 and length == 3 * how_many == len(answer) - 4, answer
    return begin, [answer[at:at + 3] for at in range(4, len(answer), 3)]


def says(begin, nodes, case):
    """What a diagram says in a case, 0 or 1."""
    at = begin
    while at > 1:
        v, with_no, with_yes = nodes[at - 2]
        at = with_yes if yes(case, v) else with_no
    return at


def cases_told(answer):
    """The cases in which an answered diagram says yes."""
    begin, nodes = told_diagram(answer)
    return cases_where(lambda m: says(begin, nodes, m))


def building(table, variables):
    """Calls that put a function of up to five variables into register 15.

    The table tells what it says: its first half for the first of the variables no, its second
    half for yes, and so on.
    """
    calls = [("var", at, v) for at, v in enumerate(variables)]
    build(calls, list(table), 0, 15)
    return calls


def build(calls, table, at, r):
    if len(table) == 1:
        calls.append(("const", r, table[0]))
    elif len(table) == 2:
        calls.append(("two", r, table[0] + 8 * table[1], at, at))
    else:
        middle = len(table) // 2
        build(calls, table[middle:], at + 1, r)
        build(calls, table[:middle], at + 1, 5 + at)
        calls.append(("choose", r, at, r, 5 + at))


def cases_of_table(table, variables):
    """The cases in which the function that `building` puts into register 15 says yes."""
    def wanted(m):
        at = 0
        for v in variables:
            at = 2 * at + yes(m, v)
        return table[at]
    return cases_where(wanted)


def reckoned(calls):
    """The reckoning behind the calls, and what each of them answers by it."""
    reckoning = Reckoning()
    wanted = [reckoning.call(*call) for call in calls]
    return reckoning, wanted


def values_read(calls, a):
    """The cases in which register a says yes behind the calls, by the call value."""
    found = set()
    room = 100 - len(calls)
    for begin in range(0, 1024, room):
        asked = range(begin, min(begin + room, 1024))
        given = told(list(calls) + [("value", a, m) for m in asked])[len(calls):]
        assert all(answer in ([0], [1]) for answer in given), given
        found.update(m for m, answer in zip(asked, given) if answer == [1])
    return frozenset(found)


def cases_read(calls, a):
    """The cases in which register a says yes behind the calls, asked of the program.

    In each case alone: the function and that case's ten answers, joined by and, say yes in one
    case or in none. A line asks sixteen cases, by 47 calls behind the ones handed in.
    """
    found = set()
    for high in range(64):
        asking = [("two", 15, FIRST_ALONE, a, a)]
        for v in range(4, 10):
            asking += [("var", 14, v), ("two", 15, AND if yes(high * 16, v) else AND_NOT, 15, 14)]
        asking += [("var", v, v) for v in range(4)]
        leaves = {}
        ask_below(asking, leaves, 15, 3, high * 16)
        given = told(list(calls) + asking)[len(calls):]
        for at, case in leaves.items():
            assert given[at] in ([0], [1]), given[at]
            if given[at] == [1]:
                found.add(case)
    return frozenset(found)


def ask_below(asking, leaves, source, v, case):
    """Adds the calls that split the source by variables v to 0, and where each case's count is."""
    for z in (0, 1):
        asking.append(("two", 4 + v, AND if z else AND_NOT, source, v))
        if v == 0:
            leaves[len(asking) - 1] = case + z
        else:
            ask_below(asking, leaves, 4 + v, v - 1, case + z * 2**v)
