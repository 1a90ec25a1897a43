"""The calls value, count, first, matters and within: what they tell of the function in a register."""

import unittest

from examples import ALL_TEN, MAJORITY, PAIRS, PARITY, majority, one_case, pairs, parity
from reckoning import (
    ALL_CASES, AND, AND_NOT, BIGGEST, OR, cases_where, last_told, told, values_read, yes,
)

NO = [("const", 0, 0)]
ALWAYS = [("const", 0, 1)]
EXAMPLES = (
    (MAJORITY, 5, cases_where(majority)),
    (PAIRS, 6, cases_where(pairs)),
    (PARITY, 0, cases_where(parity)),
    (ALL_TEN, 0, {1023}),
    (NO, 0, set()),
    (ALWAYS, 0, ALL_CASES),
    (one_case(0), 0, {0}),
    (one_case(610), 0, {610}),
)


class Value(unittest.TestCase):
    def test_each_case(self):
        for calls, a, cases in EXAMPLES:
            self.assertEqual(values_read(calls, a), cases)

    def test_a_variable_is_the_bit_worth_two_to_its_power(self):
        for v in range(10):
            given = told([("var", 0, v)] + [("value", 0, 2**w) for w in range(10)])[1:]
            self.assertEqual(given, [[1 if v == w else 0] for w in range(10)], v)
            self.assertEqual(last_told([("var", 0, v), ("value", 0, 1023 - 2**v)]), [0])

    def test_the_first_and_the_last_case(self):
        for v in range(10):
            given = told([("var", 15, v), ("value", 15, 0), ("value", 15, 1023)])
            self.assertEqual(given, [[512], [0], [1]], v)
        given = told(ALL_TEN + [("value", 0, 1022), ("value", 0, 1023), ("value", 0, 1024)])
        self.assertEqual(given[-3:], [[0], [1], [-1]])
        given = told([("not", 3, 3), ("value", 3, 0), ("value", 3, 1023), ("value", 3, 1024)])
        self.assertEqual(given, [[1024], [1], [1], [-1]])

    def test_a_case_above_the_last_is_refused(self):
        for m in (1024, 1025, 2047, 2048, 2**32, BIGGEST):
            self.assertEqual(told([("not", 0, 0), ("value", 0, m)]), [[1024], [-1]], m)

    def test_before_the_first_call_each_register_says_no(self):
        for a in range(16):
            self.assertEqual(told([("value", a, 0), ("value", a, 1023)]), [[0], [0]])


class Count(unittest.TestCase):
    def test_of_functions(self):
        for calls, a, cases in EXAMPLES:
            self.assertEqual(last_told(list(calls) + [("count", a)]), [len(cases)])

    def test_of_those_that_say_the_same_everywhere(self):
        self.assertEqual(told([("count", 7), ("not", 7, 7), ("count", 7)]), [[0], [1024], [1024]])

    def test_of_each_register(self):
        given = told(ALL_TEN + [("not", 15, 0)] + [("count", r) for r in range(16)])[-16:]
        self.assertEqual(given, [[1], [512]] + [[0]] * 13 + [[1023]])

    def test_is_what_was_answered_when_it_was_put_there(self):
        given = told(ALL_TEN)
        for last in range(1, len(ALL_TEN) + 1):
            name, r = ALL_TEN[last - 1][:2]
            self.assertEqual(last_told(ALL_TEN[:last] + [("count", r)]), given[last - 1], name)


class First(unittest.TestCase):
    def test_from_each_case_on(self):
        for calls, a, cases in EXAMPLES:
            room = 100 - len(calls)
            for begin in range(0, 1024, room):
                asked = range(begin, begin + room)
                given = told(list(calls) + [("first", a, m) for m in asked])[len(calls):]
                wanted = [[min((case for case in cases if case >= m), default=-5)] for m in asked]
                self.assertEqual(given, wanted, (a, begin))

    def test_the_case_itself_counts(self):
        given = told(one_case(610) + [("first", 0, m) for m in (0, 609, 610, 611, 1023)])[-5:]
        self.assertEqual(given, [[610], [610], [610], [-5], [-5]])

    def test_the_last_case_and_beyond(self):
        asked = [("first", 0, m) for m in (1022, 1023, 1024, 1025, 2047, 2**32, 2**62, BIGGEST)]
        self.assertEqual(told(ALWAYS + asked)[1:], [[1022], [1023]] + [[-5]] * 6)
        self.assertEqual(told(ALL_TEN + asked)[-8:], [[1023], [1023]] + [[-5]] * 6)
        self.assertEqual(told([("var", 0, 0), ("not", 0, 0)] + asked)[2:],
                         [[1022]] + [[-5]] * 7)

    def test_of_a_function_that_says_no_everywhere(self):
        asked = [("first", 15, m) for m in (0, 1, 512, 1023, 1024, BIGGEST)]
        self.assertEqual(told(asked), [[-5]] * 6)

    def test_a_walk_over_all_cases(self):
        found = []
        m = 0
        while True:
            given = last_told(MAJORITY + [("first", 5, m)])
            if given == [-5]:
                break
            found.append(given[0])
            m = given[0] + 1
        self.assertEqual(found, sorted(cases_where(majority)))


class Matters(unittest.TestCase):
    def test_of_functions(self):
        self.assertEqual(last_told(MAJORITY + [("matters", 5)]), [3, 3, 0, 4, 9])
        self.assertEqual(last_told(PAIRS + [("matters", 6)]), [4, 4, 0, 1, 2, 3])

    def test_of_those_that_say_the_same_everywhere(self):
        self.assertEqual(told(NO + [("matters", 0)]), [[0], [0, 0]])
        self.assertEqual(told(ALWAYS + [("matters", 0)]), [[1024], [0, 0]])

    def test_of_a_variable(self):
        for v in range(10):
            given = told([("var", 15, v), ("matters", 15), ("not", 0, 15), ("matters", 0)])
            self.assertEqual(given, [[512], [1, 1, v], [512], [1, 1, v]])

    def test_of_ten_variables(self):
        wanted = [10, 10, 0, 1, 2, 3, 4, 5, 6, 7, 8, 9]
        self.assertEqual(last_told(PARITY + [("matters", 0)]), wanted)
        # Here each variable matters in two cases alone.
        self.assertEqual(last_told(ALL_TEN + [("matters", 0)]), wanted)
        for case in (0, 1, 512, 610):
            self.assertEqual(last_told(one_case(case) + [("matters", 0)]), wanted, case)

    def test_a_variable_that_was_named_need_not_matter(self):
        given = told(MAJORITY + [("fix", 6, 5, 4, 1), ("matters", 6), ("some", 6, 6, 0),
                                 ("matters", 6), ("two", 7, 6, 5, 5), ("matters", 7),
                                 ("two", 8, 12, 5, 0), ("matters", 8)])
        self.assertEqual(given[7], [2, 2, 0, 9])
        self.assertEqual(given[9], [0, 0])
        self.assertEqual(given[11], [0, 0])
        self.assertEqual(given[13], [3, 3, 0, 4, 9])

    def test_they_rise_in_whatever_order_they_were_named(self):
        for named in ((9, 0, 5), (5, 9, 0), (0, 5, 9), (9, 5, 0)):
            calls = [("var", at, v) for at, v in enumerate(named)]
            calls += [("two", 3, AND, 0, 1), ("two", 3, OR, 3, 2), ("matters", 3)]
            self.assertEqual(last_told(calls), [3, 3, 0, 5, 9], named)

    def test_left_after_all_but_some_are_fixed(self):
        for left in ((), (0,), (9,), (2, 7), (0, 1, 2, 3, 4), (4, 5, 6, 7, 8, 9)):
            calls = PARITY + [("fix", 0, 0, v, v % 2) for v in range(10) if v not in left]
            self.assertEqual(last_told(calls + [("matters", 0)]), [len(left), len(left), *left])


class Within(unittest.TestCase):
    def test_where_it_holds(self):
        calls = MAJORITY + [("within", 3, 5), ("within", 5, 4), ("within", 3, 4), ("within", 3, 0)]
        self.assertEqual(told(calls)[6:], [[1], [1], [1], [1]])

    def test_where_it_does_not(self):
        calls = MAJORITY + [("within", 5, 3), ("within", 4, 5), ("within", 5, 0), ("within", 0, 5),
                            ("within", 2, 0)]
        # The first of them: variables 0 and 9 yes, all others no.
        wanted = [
            512 + 1,
            min(cases_where(lambda m: (yes(m, 0) or yes(m, 4)) and not majority(m))),
            min(cases_where(lambda m: majority(m) and not yes(m, 0))),
            min(cases_where(lambda m: yes(m, 0) and not majority(m))),
            512,
        ]
        self.assertEqual(wanted[1:4], [1, 528, 1])
        self.assertEqual(told(calls)[6:], [[0, 1, case] for case in wanted])

    def test_a_and_b_the_same(self):
        for calls, a, cases in EXAMPLES:
            same = list(calls) + [("within", a, a), ("two", 14, 12, a, a), ("within", a, 14),
                                  ("within", 14, a)]
            given = told(same)[len(calls):]
            self.assertEqual(given, [[1], [len(cases)], [1], [1]])

    def test_with_no_and_yes_everywhere(self):
        calls = MAJORITY + [("const", 6, 0), ("const", 7, 1), ("within", 6, 5), ("within", 5, 7),
                            ("within", 6, 7), ("within", 6, 6), ("within", 7, 7)]
        self.assertEqual(told(calls)[8:], [[1]] * 5)
        calls = MAJORITY + [("const", 6, 0), ("const", 7, 1), ("within", 5, 6), ("within", 7, 5),
                            ("within", 7, 6)]
        self.assertEqual(told(calls)[8:], [[0, 1, 17], [0, 1, 0], [0, 1, 0]])

    def test_where_one_case_alone_is_outside(self):
        for case in (0, 1, 511, 512, 610, 1022, 1023):
            calls = one_case(case) + [("const", 2, 0), ("within", 0, 2), ("not", 3, 0),
                                      ("const", 4, 1), ("within", 4, 3), ("within", 0, 3),
                                      ("within", 3, 0), ("two", 5, AND_NOT, 4, 0), ("within", 5, 3)]
            given = told(calls)[-8:]
            self.assertEqual(given[0], [0, 1, case])
            self.assertEqual(given[3], [0, 1, case])
            self.assertEqual(given[4], [0, 1, case])
            self.assertEqual(given[5], [0, 1, 1 if case == 0 else 0])
            self.assertEqual(given[7], [1])


if __name__ == "__main__":
    unittest.main()
