"""The call best: D4, the best order has the fewest nodes of all."""

import itertools
import random
import unittest

from examples import ALL_TEN, MAJORITY, PAIRS, PARITY, random_calls
from reckoning import (
    AND, OR, RISING, XOR, building, cases_of_table, how_many_parts, last_told, mattering, reckoned,
    told,
)


def with_others(order):
    """The order of the ten variables: these, the others standing behind, rising."""
    return list(order) + [v for v in RISING if v not in order]


def random_tables(seed, variables, most):
    """Tables, by chance, of functions to which so many variables may matter."""
    chance = random.Random(seed)
    return [[chance.randint(0, 1) for at in range(2**variables)] for again in range(most)]


class Best(unittest.TestCase):
    def check(self, calls, a, cases):
        """The answer: its order is the first of those with the fewest nodes, by another reckoning."""
        found = mattering(cases)
        wanted = min((how_many_parts(cases, order), order)
                     for order in itertools.permutations(found))
        answer = last_told(list(calls) + [("best", a)])
        self.assertEqual(answer, [wanted[0], len(found), *wanted[1]], found)
        return answer

    def check_by_diagrams(self, calls, a, answer):
        """By the best order the diagram has so many nodes; by no other fewer, by no lesser so few."""
        order = answer[2:]
        others = [list(other) for other in itertools.permutations(sorted(order))]
        room = 100 - len(calls)
        for begin in range(0, len(others), room):
            asked = others[begin:begin + room]
            given = told(list(calls) + [("diagram", a, with_others(o)) for o in asked])
            for other, (nodes, *rest) in zip(asked, given[len(calls):]):
                if other < order:
                    self.assertGreater(nodes, answer[0], other)
                elif other == order:
                    self.assertEqual(nodes, answer[0])
                else:
                    self.assertGreaterEqual(nodes, answer[0], other)

    def test_with_no_variable_that_matters(self):
        self.assertEqual(told([("best", 7), ("not", 7, 7), ("best", 7)]), [[0, 0], [1024], [0, 0]])
        calls = PARITY + [("two", 2, XOR, 0, 0), ("two", 3, 9, 0, 0), ("best", 2), ("best", 3)]
        self.assertEqual(told(calls)[-2:], [[0, 0], [0, 0]])

    def test_with_one(self):
        for v in range(10):
            given = told([("var", 3, v), ("not", 4, 3), ("best", 3), ("best", 4)])
            self.assertEqual(given[2:], [[1, 1, v], [1, 1, v]])

    def test_with_two(self):
        for v, w in itertools.permutations(RISING, 2):
            calls = [("var", 0, v), ("var", 1, w), ("two", 2, AND, 0, 1), ("two", 3, XOR, 0, 1),
                     ("two", 4, 4, 0, 1), ("best", 2), ("best", 3), ("best", 4)]
            both = sorted((v, w))
            self.assertEqual(told(calls)[5:], [[2, 2, *both], [3, 2, *both], [2, 2, *both]])

    def test_of_several_orders_with_the_fewest_nodes_it_is_the_first(self):
        # All six orders have as many nodes.
        self.assertEqual(last_told(MAJORITY + [("best", 5)]), [4, 3, 0, 4, 9])
        # Each pair stays together: eight orders do.
        self.assertEqual(last_told(PAIRS + [("best", 6)]), [4, 4, 0, 1, 2, 3])
        for first, second in (((0, 3), (1, 2)), ((9, 2), (4, 3)), ((5, 8), (1, 7))):
            calls = [("var", 0, first[0]), ("var", 1, first[1]), ("two", 4, AND, 0, 1),
                     ("var", 2, second[0]), ("var", 3, second[1]), ("two", 5, AND, 2, 3),
                     ("two", 6, OR, 4, 5), ("best", 6)]
            pairs = sorted([sorted(first), sorted(second)])
            self.assertEqual(last_told(calls), [4, 4, *pairs[0], *pairs[1]])

    def test_the_best_need_not_begin_with_the_least(self):
        # If 9 then 3, else 4: it's best to ask 9 first.
        calls = [("var", 0, 3), ("var", 1, 4), ("var", 2, 9), ("choose", 5, 2, 0, 1), ("best", 5)]
        self.assertEqual(last_told(calls), [3, 3, 9, 3, 4])
        # If 9 then one of 3 and 8 alone, else 4 and 5.
        calls = [("var", 0, 3), ("var", 1, 8), ("two", 2, XOR, 0, 1),
                 ("var", 0, 4), ("var", 1, 5), ("two", 3, AND, 0, 1),
                 ("var", 4, 9), ("choose", 5, 4, 2, 3), ("best", 5)]
        self.assertEqual(last_told(calls), [6, 5, 9, 3, 4, 5, 8])

    def test_with_five(self):
        calls = PARITY[:9] + [("best", 0)]
        self.assertEqual(last_told(calls), [9, 5, 0, 1, 2, 3, 4])
        calls = ALL_TEN + [("fix", 0, 0, v, 1) for v in (0, 2, 4, 6, 8)] + [("best", 0)]
        self.assertEqual(last_told(calls), [5, 5, 1, 3, 5, 7, 9])

    def test_with_six_and_more(self):
        for how_many in range(1, 11):
            for calls in (PARITY, ALL_TEN):
                given = last_told(calls[:2 * how_many - 1] + [("best", 0)])
                if how_many > 5:
                    self.assertEqual(given, [-6], how_many)
                else:
                    self.assertEqual(given[1:], [how_many, *RISING[:how_many]])

    def test_only_the_variables_that_matter_are_counted(self):
        # Six matter to the one function, five once one of them is fixed.
        calls = PARITY[:11]
        self.assertEqual(told(calls + [("best", 0), ("fix", 2, 0, 3, 1), ("best", 2)])[-3:],
                         [[-6], [512], [9, 5, 0, 1, 2, 4, 5]])
        calls = PARITY + [("fix", 0, 0, v, 0) for v in range(5)]
        self.assertEqual(last_told(calls + [("best", 0)]), [9, 5, 5, 6, 7, 8, 9])

    def test_all_functions_of_three_variables(self):
        variables = (2, 9, 5)
        for table in itertools.product((0, 1), repeat=8):
            calls = building(table, variables)
            answer = self.check(calls, 15, cases_of_table(table, variables))
            self.check_by_diagrams(calls, 15, answer)

    def test_functions_of_four_and_five_variables(self):
        for variables in ((3, 0, 8, 6), (9, 1, 4, 0, 7), (0, 1, 2, 3, 4), (9, 8, 7, 6, 5)):
            for table in random_tables(sum(variables), len(variables), 12):
                calls = building(table, variables)
                self.check(calls, 15, cases_of_table(table, variables))

    def test_by_the_diagrams_of_functions_of_five_variables(self):
        for table in random_tables(3, 5, 6):
            calls = building(table, (7, 2, 9, 0, 4))
            self.check_by_diagrams(calls, 15, last_told(calls + [("best", 15)]))

    def test_best_and_diagram_together_behind_lines_by_chance(self):
        ordered = 0
        for seed in range(20):
            calls = random_calls(2000 + seed, 60, ("two", "choose", "some", "all", "fix", "put"))
            given = told(calls + [("best", a) for a in range(16)])[60:]
            sets = reckoned(calls)[0].sets
            for a, answer in enumerate(given):
                found = mattering(sets[a])
                if len(found) > 5:
                    self.assertEqual(answer, [-6])
                    continue
                self.assertEqual(sorted(answer[2:]), found)
                self.assertEqual(answer[1], len(found))
                diagram = last_told(calls + [("diagram", a, with_others(answer[2:]))])
                self.assertEqual(diagram[0], answer[0])
                ordered += len(found) > 1
        self.assertGreater(ordered, 50)


if __name__ == "__main__":
    unittest.main()
