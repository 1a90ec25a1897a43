"""The functions themselves, each held against all 1,024 cases (D1)."""

import unittest

from examples import majority, parity
from reckoning import ALL_CASES, cases_where, mattering, with_value
from tenquestions import functions


def table(says_yes):
    """The package's form of a function, from a Python function of the case."""
    return [1 if says_yes(m) else 0 for m in range(1024)]


def sparse(m):
    return m in (0, 1, 77, 512, 1023)


def product(m):
    return (m // 32) * (m % 32) % 7 < 3


EXAMPLES = (majority, parity, sparse, product)


class Functions(unittest.TestCase):
    def test_everywhere_says_the_same_in_each_case(self):
        self.assertEqual(functions.everywhere(0), [0] * 1024)
        self.assertEqual(functions.everywhere(1), [1] * 1024)

    def test_a_variable_is_its_bit_of_the_case(self):
        for v in range(10):
            self.assertEqual(functions.variable(v), [m // 2**v % 2 for m in range(1024)], v)
        self.assertEqual(functions.variable(0)[:4], [0, 1, 0, 1])
        self.assertEqual(functions.variable(9)[510:514], [0, 0, 1, 1])

    def test_the_opposite(self):
        for f in EXAMPLES:
            self.assertEqual(functions.opposite(table(f)), table(lambda m: not f(m)))

    def test_two_joined_by_each_op(self):
        for op in range(16):
            wanted = table(lambda m: op // 2**(2 * majority(m) + product(m)) % 2)
            self.assertEqual(functions.joined(op, table(majority), table(product)), wanted, op)

    def test_one_chosen_by_another(self):
        wanted = table(lambda m: product(m) if majority(m) else parity(m))
        given = functions.chosen(table(majority), table(product), table(parity))
        self.assertEqual(given, wanted)

    def test_a_variable_fixed(self):
        for f in EXAMPLES:
            for v in range(10):
                for z in (0, 1):
                    wanted = table(lambda m: f(with_value(m, v, z)))
                    self.assertEqual(functions.fixed(table(f), v, z), wanted, (f, v, z))

    def test_for_either_and_for_both(self):
        for f in EXAMPLES:
            for v in range(10):
                either = table(lambda m: f(with_value(m, v, 0)) or f(with_value(m, v, 1)))
                both = table(lambda m: f(with_value(m, v, 0)) and f(with_value(m, v, 1)))
                self.assertEqual(functions.for_either(table(f), v), either, (f, v))
                self.assertEqual(functions.for_both(table(f), v), both, (f, v))

    def test_a_function_put_for_a_variable(self):
        for f in EXAMPLES:
            for g in EXAMPLES:
                for v in (0, 4, 9):
                    wanted = table(lambda m: f(with_value(m, v, 1 if g(m) else 0)))
                    self.assertEqual(functions.put_for(table(f), v, table(g)), wanted, (f, g, v))

    def test_the_variables_that_matter(self):
        for f in EXAMPLES:
            self.assertEqual(functions.mattering(table(f)), mattering(cases_where(f)), f)
        self.assertEqual(functions.mattering(table(lambda m: False)), [])
        self.assertEqual(functions.mattering(table(lambda m: True)), [])

    def test_how_many(self):
        self.assertEqual(functions.how_many(table(lambda m: False)), 0)
        self.assertEqual(functions.how_many(table(lambda m: True)), 1024)
        for f in EXAMPLES:
            self.assertEqual(functions.how_many(table(f)), len(cases_where(f)))

    def test_what_is_handed_in_is_not_changed(self):
        first, second, third = table(majority), table(product), table(parity)
        functions.opposite(first)
        functions.joined(6, first, second)
        functions.chosen(first, second, third)
        functions.fixed(first, 4, 1)
        functions.for_either(first, 4)
        functions.for_both(first, 4)
        functions.put_for(first, 4, second)
        functions.mattering(first)
        functions.first_yes(first, 3)
        functions.first_outside(first, second)
        self.assertEqual(first, table(majority))
        self.assertEqual(second, table(product))
        self.assertEqual(third, table(parity))

    def test_the_case_with_a_variable_set(self):
        for m in ALL_CASES:
            for v in range(10):
                for z in (0, 1):
                    self.assertEqual(functions.case_with(m, v, z), with_value(m, v, z))


if __name__ == "__main__":
    unittest.main()
