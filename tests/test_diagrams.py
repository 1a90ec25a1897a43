"""The call diagram: D2, a diagram tells its function by the fewest nodes, and D3, just one diagram."""

import itertools
import random
import unittest

from examples import (
    ALL_TEN, MAJORITY, PAIRS, PARITY, majority, one_case, pairs, parity, shuffled,
)
from reckoning import (
    ALL_CASES, BIGGEST, RISING, XOR, building, cases_of_table, cases_told, cases_where, diagram_of,
    how_many_parts, last_told, reckoned, told, told_diagram, yes,
)

FALLING = RISING[::-1]
EXAMPLES = (
    (MAJORITY, 5, cases_where(majority)),
    (PAIRS, 6, cases_where(pairs)),
    (PARITY, 0, cases_where(parity)),
    (ALL_TEN, 0, {1023}),
    (one_case(610), 0, {610}),
    ([("var", 3, 8)], 3, cases_where(lambda m: yes(m, 8))),
    ([("const", 3, 0)], 3, set()),
    ([("const", 3, 1)], 3, ALL_CASES),
)
# Variables 8, 9 and 4 choose which of 0 to 3 and 5 to 7 is asked.
SELECTOR = [("var", r, r) for r in range(10)] + [
    ("choose", 10, 8, 0, 1), ("choose", 11, 8, 2, 3), ("choose", 12, 8, 5, 6),
    ("choose", 13, 9, 10, 11), ("choose", 14, 9, 12, 7), ("choose", 15, 4, 13, 14),
]


def uneven(seed):
    """Calls that make of the ten variables, in registers 0 to 9, uneven functions in 10 to 15."""
    chance = random.Random(seed)
    calls = [("var", r, r % 10) for r in range(16)]
    while len(calls) < 80:
        r, b, c = (chance.randint(10, 15) for again in range(3))
        v = chance.randint(0, 9)
        calls.append(chance.choice([("choose", r, v, b, c), ("two", r, XOR, b, v)]))
    return calls


def some_orders(seed, most):
    """Orders of the ten variables: rising, falling, and others by chance."""
    chance = random.Random(seed)
    return [RISING, FALLING] + [shuffled(chance) for at in range(most - 2)]


class Told(unittest.TestCase):
    """Diagrams written out."""

    def test_the_run_that_the_document_tells(self):
        given = last_told(PAIRS + [("diagram", 6, RISING)])
        self.assertEqual(given, [4, 1, 2, 12, 0, 3, 5, 2, 0, 4, 3, 0, 1, 1, 3, 1])

    def test_of_functions_that_say_the_same_everywhere(self):
        for order in some_orders(1, 5):
            calls = [("diagram", 3, order), ("not", 3, 3), ("diagram", 3, order)]
            self.assertEqual(told(calls), [[0, 1, 0, 0], [1024], [0, 1, 1, 0]])
        # No node either where a function came to say the same everywhere.
        calls = MAJORITY + [("two", 6, 6, 5, 5), ("two", 7, 9, 5, 5), ("diagram", 6, RISING),
                            ("diagram", 7, RISING)]
        self.assertEqual(told(calls)[-2:], [[0, 1, 0, 0], [0, 1, 1, 0]])

    def test_of_a_variable_and_its_opposite(self):
        for v in range(10):
            for order in some_orders(v, 4):
                calls = [("var", 3, v), ("not", 4, 3), ("diagram", 3, order), ("diagram", 4, order)]
                self.assertEqual(told(calls)[2:], [[1, 1, 2, 3, v, 0, 1], [1, 1, 2, 3, v, 1, 0]])

    def test_the_pairs_by_another_order(self):
        # 0, 2, 1, 3: six nodes, of which the ones for 3 and for 1 are met from two sides.
        given = last_told(PAIRS + [("diagram", 6, [0, 2, 1, 3, 4, 5, 6, 7, 8, 9])])
        nodes = [0, 3, 5, 2, 0, 4, 3, 0, 1, 2, 6, 7, 1, 0, 1, 1, 4, 1]
        self.assertEqual(given, [6, 1, 2, 18] + nodes)

    def test_no_is_gone_through_ahead_of_yes(self):
        # If 9 then 0, else 1: by 9, 0, 1 the node for 1 comes first, as it's met with no.
        calls = [("var", 0, 0), ("var", 1, 1), ("var", 2, 9), ("choose", 3, 2, 0, 1)]
        given = last_told(calls + [("diagram", 3, [9, 0, 1, 2, 3, 4, 5, 6, 7, 8])])
        self.assertEqual(given, [3, 1, 2, 9, 9, 3, 4, 1, 0, 1, 0, 0, 1])

    def test_of_an_odd_number_of_ten_has_alike_parts(self):
        for order in some_orders(3, 4):
            given = last_told(PARITY + [("diagram", 0, order)])
            begin, nodes = told_diagram(given)
            # One node for the first variable, two for each other.
            self.assertEqual((given[0], begin, len(nodes)), (19, 2, 19))
            self.assertEqual(sorted(node[0] for node in nodes),
                             sorted(order[:1] + 2 * order[1:]))
            # With no through all: nodes 0 to 9; node 9 goes on to no, then to yes.
            self.assertEqual([node[0] for node in nodes[:10]], order)
            self.assertEqual([node[1] for node in nodes[:10]], [*range(3, 12), 0])

    def test_of_all_ten(self):
        for order in some_orders(4, 4):
            given = last_told(ALL_TEN + [("diagram", 0, order)])
            nodes = [told for at, v in enumerate(order) for told in (v, 0, at + 3)]
            self.assertEqual(given, [10, 1, 2, 30] + nodes[:-1] + [1])


class Form(unittest.TestCase):
    """D2, and how nodes are numbered, held against what the document says of each diagram."""

    def check_diagram(self, answer, order, cases):
        begin, nodes = told_diagram(answer)
        self.assertEqual(cases_told(answer), cases)
        self.assertEqual(len(nodes), how_many_parts(cases, order))
        self.assertEqual(begin, 2 if nodes else 1 if cases else 0)
        for v, *further in nodes:
            self.assertNotEqual(further[0], further[1])
            for at in further:
                if at > 1:
                    self.assertLess(order.index(v), order.index(nodes[at - 2][0]))
        self.check_numbers(begin, nodes)
        self.assertEqual((begin, nodes), diagram_of(cases, order))

    def check_numbers(self, begin, nodes):
        """Each node has the number that it's first met with."""
        met = []
        waiting = [begin]
        while waiting:
            at = waiting.pop()
            if at > 1 and at not in met:
                met.append(at)
                waiting += [nodes[at - 2][2], nodes[at - 2][1]]
        self.assertEqual(met, list(range(2, len(nodes) + 2)))

    def test_of_functions_by_several_orders(self):
        for calls, a, cases in EXAMPLES:
            for order in some_orders(len(cases), 8):
                answer = last_told(list(calls) + [("diagram", a, order)])
                self.check_diagram(answer, order, cases)

    def test_of_a_selector_by_several_orders(self):
        reckoning = reckoned(SELECTOR)[0]
        counts = set()
        for order in some_orders(5, 12):
            asked = [("diagram", a, order) for a in range(10, 16)]
            given = told(SELECTOR + asked)[len(SELECTOR):]
            for (name, a, o), answer in zip(asked, given):
                self.check_diagram(answer, order, reckoning.sets[a])
            counts.add(given[-1][0])
        self.assertGreater(len(counts), 3)

    def test_of_uneven_functions_by_several_orders(self):
        most = 0
        for seed in range(4):
            calls = uneven(seed)
            sets = reckoned(calls)[0].sets
            for order in some_orders(seed, 4):
                asked = [("diagram", a, order) for a in range(10, 16)]
                for a, answer in zip(range(10, 16), told(calls + asked)[len(calls):]):
                    self.check_diagram(answer, order, sets[a])
                    most = max(most, answer[0])
        self.assertGreater(most, 50)

    def test_variables_that_do_not_matter_may_stand_anywhere(self):
        chance = random.Random(8)
        wanted = last_told(MAJORITY + [("diagram", 5, [4, 9, 0, 1, 2, 3, 5, 6, 7, 8])])
        self.assertEqual(wanted, [4, 1, 2, 12, 4, 3, 5, 9, 0, 4, 0, 0, 1, 9, 4, 1])
        for again in range(30):
            order = shuffled(chance)
            for v in (4, 9, 0):
                order.remove(v)
            for at, v in zip(sorted(chance.choices(range(8), k=3), reverse=True), (0, 9, 4)):
                order.insert(at, v)
            self.assertEqual(last_told(MAJORITY + [("diagram", 5, order)]), wanted, order)

    def test_no_diagram_by_the_order_that_tells_it_has_fewer_nodes(self):
        order = [5, 7, 0, 2, 1, 3, 4, 6, 8, 9]
        fewest = fewest_nodes_of_three()
        self.assertEqual(len(fewest), 256)
        for table in itertools.product((0, 1), repeat=8):
            for variables in ((7, 2, 1), (5, 0, 9)):
                given = last_told(building(table, variables) + [("diagram", 15, order)])
                self.assertEqual(given[0], fewest[table], (table, variables))


def fewest_nodes_of_three():
    """By table, of each function of three variables: how many nodes a diagram needs at the least.

    All diagrams are gone through: to what is there, no and yes at first, a node is added that asks
    a variable and goes on to two that are there and ask later ones.
    """
    asked = [tuple(m >> (2 - v) & 1 for m in range(8)) for v in range(3)]
    no, always = (0,) * 8, (1,) * 8
    fewest = {no: 0, always: 0}
    diagrams = {frozenset()}
    how_many = 0
    while len(fewest) < 256:
        how_many += 1
        longer = set()
        for nodes in diagrams:
            there = list(nodes) + [(3, no), (3, always)]
            for v in range(3):
                later = [said for at, said in there if at > v]
                for with_no, with_yes in itertools.permutations(later, 2):
                    said = tuple(y if x else n for x, y, n in zip(asked[v], with_yes, with_no))
                    longer.add(nodes | {(v, said)})
                    fewest.setdefault(said, how_many)
        diagrams = longer
    return fewest


class Same(unittest.TestCase):
    """D3: two functions are the same just if their diagrams by an order are."""

    def test_one_function_made_in_different_ways(self):
        calls = MAJORITY + [
            ("not", 6, 3), ("not", 7, 4), ("choose", 8, 2, 7, 6), ("not", 9, 8),
            ("two", 10, 8, 0, 2), ("two", 11, 8, 1, 2), ("two", 12, 14, 10, 11),
            ("two", 12, 14, 12, 3), ("put", 13, 5, 4, 1), ("fix", 14, 5, 7, 1),
        ]
        for order in some_orders(9, 10):
            asked = [("diagram", a, order) for a in (5, 9, 12, 13, 14)]
            given = told(calls + asked)[len(calls):]
            self.assertEqual(given, [given[0]] * 5)
            self.assertGreater(given[0][0], 0)

    def test_all_functions_of_three_variables_differ(self):
        for order in some_orders(10, 3):
            seen = set()
            for table in itertools.product((0, 1), repeat=8):
                calls = building(table, (8, 3, 6))
                answer = last_told(calls + [("diagram", 15, order)])
                self.assertEqual(cases_told(answer), cases_of_table(table, (8, 3, 6)))
                seen.add(tuple(answer))
            self.assertEqual(len(seen), 256)

    def test_functions_that_differ_in_one_case_alone(self):
        order = some_orders(11, 3)[2]
        for case in (0, 1, 512, 610, 1023):
            calls = one_case(case) + [("not", 15, 0), ("const", 14, 1), ("diagram", 14, order),
                                      ("diagram", 15, order), ("two", 15, 8, 14, 15),
                                      ("diagram", 15, order), ("two", 15, 14, 15, 0),
                                      ("diagram", 15, order)]
            given = told(calls)[-6:]
            self.assertNotEqual(given[0], given[1], case)
            self.assertEqual(given[3], given[1], case)
            self.assertEqual(given[5], given[0], case)

    def test_pairs_of_uneven_functions(self):
        calls = uneven(12)
        sets = reckoned(calls)[0].sets
        for order in some_orders(12, 6):
            asked = [("diagram", a, order) for a in range(16)]
            given = told(calls + asked)[len(calls):]
            for a in range(16):
                for b in range(16):
                    self.assertEqual(given[a] == given[b], sets[a] == sets[b], (a, b))


class NoOrder(unittest.TestCase):
    """-1: o is no order."""

    WRONG = (
        [], [0], [0, 1, 2], RISING[:9], RISING[1:], RISING + [0], RISING + [9], RISING + [10],
        [0] * 10, RISING[:9] + [0], [1] + RISING[1:], [0, 1, 2, 3, 4, 4, 6, 7, 8, 9],
        [10] + RISING[1:], RISING[:9] + [10], RISING[:9] + [BIGGEST], [BIGGEST] + RISING[1:],
        RISING[:5] + [16] + RISING[6:], list(range(1, 11)), list(range(11)), RISING * 2,
        RISING * 4, [BIGGEST] * 40, list(range(40)), RISING[:9] + [9 + 2**32], RISING[:9] + [2**62],
    )

    def test_each(self):
        for o in self.WRONG:
            given = told(PAIRS + [("diagram", 6, o), ("diagram", 6, RISING), ("count", 6)])
            self.assertEqual(given[7], [-1], o)
            self.assertEqual(given[8:], [[4, 1, 2, 12, 0, 3, 5, 2, 0, 4, 3, 0, 1, 1, 3, 1], [448]])

    def test_of_a_function_that_says_the_same_everywhere_too(self):
        for o in self.WRONG:
            given = told([("diagram", 0, o), ("not", 0, 0), ("diagram", 0, o)])
            self.assertEqual(given, [[-1], [1024], [-1]], o)

    def test_each_order_is_taken(self):
        chance = random.Random(13)
        for again in range(50):
            self.assertEqual(last_told([("diagram", 0, shuffled(chance))]), [0, 1, 0, 0])


if __name__ == "__main__":
    unittest.main()
