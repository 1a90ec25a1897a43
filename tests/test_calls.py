"""D1 by the interface: what is in a register is the function that was said."""

import unittest

from examples import MAJORITY, majority, random_calls
from reckoning import (
    ALL_CASES, NAMES, cases_read, cases_where, last_told, reckoned, told, values_read,
    with_value, yes,
)

# Those that join registers come often: so the functions stay uneven.
MAKING = ("const", "var", "not", "fix", "some", "all", "put") + 4 * ("two", "choose")


class Calls(unittest.TestCase):
    def check(self, calls, *registers):
        """Holds each answer, and the named registers in each case, against the reckoning."""
        reckoning, wanted = reckoned(calls)
        self.assertEqual(told(calls), wanted)
        for r in registers:
            self.assertEqual(cases_read(calls, r), reckoning.sets[r], r)

    def counts(self, calls):
        return [given[0] for given in told(calls)]

    def test_before_the_first_call_each_register_says_no_everywhere(self):
        for a in range(16):
            self.assertEqual(told([("not", 0, a)]), [[1024]])
            self.assertEqual(told([("two", 3, 12, a, a)]), [[0]])

    def test_const(self):
        self.assertEqual(told([("const", 0, 0), ("const", 15, 1)]), [[0], [1024]])
        self.check([("const", 0, 1), ("const", 15, 0)], 0, 15)
        self.check([("const", 15, 1), ("const", 15, 0), ("not", 0, 15)], 0, 15)

    def test_var(self):
        for v in range(10):
            self.assertEqual(told([("var", v + 6, v)]), [[512]])
        self.check([("var", 0, 9), ("var", 15, 0)], 0, 15)

    def test_variables_differ(self):
        for v in range(10):
            for w in range(10):
                given = told([("var", 0, v), ("var", 15, w), ("two", 1, 6, 0, 15)])
                self.assertEqual(given[2], [0 if v == w else 512], (v, w))

    def test_a_variable_is_the_one_that_fix_some_and_all_name(self):
        for v in range(10):
            for w in range(10):
                same = v == w
                given = told([
                    ("var", 0, v), ("fix", 1, 0, w, 0), ("fix", 2, 0, w, 1),
                    ("some", 3, 0, w), ("all", 4, 0, w),
                ])
                wanted = [512, 0, 1024, 1024, 0] if same else [512] * 5
                self.assertEqual([x[0] for x in given], wanted, (v, w))

    def test_not(self):
        self.assertEqual(told([("not", 0, 15)]), [[1024]])
        self.check(MAJORITY + [("two", 6, 8, 5, 0), ("not", 15, 6)], 6, 15)
        self.check(MAJORITY + [("two", 6, 8, 5, 0), ("not", 6, 6)], 6)

    def test_two_by_each_op(self):
        start = [("var", 0, 0), ("var", 1, 9), ("var", 2, 5), ("two", 3, 8, 0, 1),
                 ("two", 4, 14, 1, 2)]
        for op in range(16):
            calls = start + [("two", 15, op, 3, 4)]
            self.check(calls)
            wanted = cases_where(lambda m: op // 2**(
                2 * (yes(m, 0) and yes(m, 9)) + (yes(m, 9) or yes(m, 5))) % 2)
            self.assertEqual(cases_read(calls, 15), wanted, op)

    def test_two_counts_of_each_op(self):
        # First: yes in 256 cases; second: in 512; both: in 128.
        start = [("var", 0, 1), ("var", 1, 2), ("two", 2, 8, 0, 1), ("var", 3, 3)]
        wanted = [0, 384, 384, 768, 128, 512, 512, 896, 128, 512, 512, 896, 256, 640, 640, 1024]
        for op in range(16):
            self.assertEqual(self.counts(start + [("two", 0, op, 2, 3)])[-1], wanted[op], op)

    def test_choose(self):
        self.assertEqual(self.counts(MAJORITY)[-1], 512)
        self.assertEqual(cases_read(MAJORITY, 5), cases_where(majority))
        uneven = MAJORITY + [("two", 6, 8, 5, 1), ("choose", 7, 6, 0, 2), ("choose", 15, 3, 6, 7)]
        self.check(uneven, 7, 15)

    def test_fix(self):
        for v in (0, 4, 9):
            for z in (0, 1):
                calls = MAJORITY + [("fix", 15, 5, v, z)]
                self.assertEqual(self.counts(calls)[-1], 768 if z else 256)
                wanted = cases_where(lambda m: majority(with_value(m, v, z)))
                self.assertEqual(cases_read(calls, 15), wanted, (v, z))
        self.check(MAJORITY + [("fix", 15, 5, 3, 1)], 15)

    def test_some_and_all(self):
        for v in (0, 4, 9, 7):
            calls = MAJORITY + [("some", 14, 5, v), ("all", 15, 5, v)]
            some = cases_where(lambda m: majority(m) or majority(m ^ 2**v))
            both = cases_where(lambda m: majority(m) and majority(m ^ 2**v))
            self.assertEqual(self.counts(calls)[-2:], [len(some), len(both)])
            self.assertEqual(cases_read(calls, 14), some, v)
            self.assertEqual(cases_read(calls, 15), both, v)

    def test_put(self):
        # Variable 4 becomes: variable 7 or 9, which the majority doesn't ask and asks.
        calls = MAJORITY + [("var", 6, 7), ("two", 7, 14, 6, 2), ("put", 15, 5, 4, 7)]
        wanted = cases_where(
            lambda m: majority(with_value(m, 4, 1 if yes(m, 7) or yes(m, 9) else 0)))
        self.assertEqual(last_told(calls), [len(wanted)])
        self.assertEqual(cases_read(calls, 15), wanted)
        self.assertEqual(values_read(calls, 15), wanted)
        self.check(calls, 5, 7)

    def test_put_a_variable_for_each(self):
        for v in range(10):
            for w in range(10):
                calls = [("var", 0, v), ("var", 1, w), ("put", 2, 0, v, 1), ("two", 3, 6, 1, 2),
                         ("const", 4, 1), ("put", 5, 0, w, 4)]
                wanted = [[512], [512], [512], [0], [1024], [1024 if v == w else 512]]
                self.assertEqual(told(calls), wanted, (v, w))

    def test_put_what_says_the_same_everywhere_fixes(self):
        for v in (0, 4, 9, 3):
            for z in (0, 1):
                calls = MAJORITY + [("const", 6, z), ("put", 7, 5, v, 6), ("fix", 8, 5, v, z),
                                    ("two", 9, 6, 7, 8)]
                self.assertEqual(last_told(calls), [0], (v, z))
                self.check(calls)

    def test_put_for_a_variable_that_does_not_matter_changes_nothing(self):
        for v in (1, 2, 3, 5, 6, 7, 8):
            calls = MAJORITY + [("put", 6, 5, v, 3), ("two", 7, 6, 5, 6)]
            self.assertEqual(told(calls)[-2:], [[512], [0]], v)

    def test_put_what_hangs_on_the_variable_itself(self):
        # The other way round; and the variable or another one.
        calls = MAJORITY + [("not", 6, 1), ("put", 7, 5, 4, 6)]
        flipped = cases_where(lambda m: majority(m ^ 16))
        self.assertEqual(cases_read(calls, 7), flipped)
        calls = MAJORITY + [("var", 6, 6), ("two", 6, 14, 1, 6), ("put", 7, 5, 4, 6)]
        self.assertEqual(
            cases_read(calls, 7),
            cases_where(lambda m: majority(with_value(m, 4, 1 if yes(m, 4) or yes(m, 6) else 0))))
        self.check(calls, 5)

    def test_put_where_all_are_the_same_register(self):
        for v in (0, 4, 9, 3):
            calls = MAJORITY + [("put", 5, 5, v, 5)]
            wanted = cases_where(lambda m: majority(with_value(m, v, 1 if majority(m) else 0)))
            self.assertEqual(last_told(calls), [len(wanted)], v)
            self.assertEqual(cases_read(calls, 5), wanted, v)
        # A variable put for itself is as it was; what turns it round turns it twice.
        self.assertEqual(told([("var", 3, 8), ("put", 3, 3, 8, 3)]), [[512], [512]])
        self.assertEqual(told([("var", 3, 8), ("not", 3, 3), ("put", 3, 3, 8, 3), ("value", 3, 0),
                               ("value", 3, 256)])[2:], [[512], [0], [1]])

    def test_answers_of_nought_one_and_all(self):
        ands = [("const", 0, 1)]
        for v in range(10):
            ands += [("var", 1, v), ("two", 0, 8, 0, 1)]
        self.assertEqual(self.counts(ands)[2::2], [512, 256, 128, 64, 32, 16, 8, 4, 2, 1])
        self.assertEqual(cases_read(ands, 0), {1023})
        self.assertEqual(self.counts(ands + [("not", 2, 0)])[-1], 1023)
        self.assertEqual(self.counts(ands + [("two", 2, 15, 0, 1), ("two", 3, 0, 2, 2)])[-2:],
                         [1024, 0])
        somes = ands + [("some", 0, 0, v) for v in range(10)]
        self.assertEqual(self.counts(somes)[-10:], [2**k for k in range(1, 11)])

    def test_parity_of_ten(self):
        calls = [("const", 0, 0)]
        for v in range(10):
            calls += [("var", 1, v), ("two", 0, 6, 0, 1)]
        self.assertEqual(self.counts(calls)[2::2], [512] * 10)
        wanted = cases_where(lambda m: sum(yes(m, v) for v in range(10)) % 2 == 1)
        self.assertEqual(cases_read(calls, 0), wanted)

    def test_at_least_two_of_ten(self):
        # Register 1: one at least of those so far; 2: two at least.
        calls = []
        for v in range(10):
            calls += [("var", 0, v), ("two", 3, 8, 0, 1), ("two", 2, 14, 2, 3),
                      ("two", 1, 14, 0, 1)]
        self.assertEqual(self.counts(calls)[-2:], [1024 - 11, 1023])
        wanted = cases_where(lambda m: sum(yes(m, v) for v in range(10)) >= 2)
        self.assertEqual(cases_read(calls, 2), wanted)

    def test_a_selector_over_all_ten(self):
        # Variables 8 and 9 and a majority of 0, 1, 2 name which of the others is asked.
        calls = [("var", r, r) for r in range(10)]
        calls += [("two", 10, 8, 0, 1), ("two", 11, 14, 0, 1), ("choose", 12, 2, 11, 10),
                  ("choose", 13, 8, 3, 4), ("choose", 14, 8, 5, 6), ("choose", 13, 9, 13, 14),
                  ("choose", 15, 12, 13, 7)]

        def wanted(m):
            if yes(m, 0) + yes(m, 1) + yes(m, 2) < 2:
                return yes(m, 7)
            if yes(m, 9):
                return yes(m, 3) if yes(m, 8) else yes(m, 4)
            return yes(m, 5) if yes(m, 8) else yes(m, 6)

        self.assertEqual(cases_read(calls, 15), cases_where(wanted))
        self.check(calls, 12, 13, 14)


class WrittenAlsoRead(unittest.TestCase):
    """The register that is written is also one that is read: read as it was before."""

    # Three different functions in 0, 1 and 2; none of them alike under any of the calls below.
    START = [
        ("var", 0, 0), ("var", 1, 1), ("two", 0, 8, 0, 1), ("var", 2, 2), ("two", 0, 14, 0, 2),
        ("var", 3, 9), ("two", 1, 11, 1, 3), ("two", 2, 4, 2, 3),
    ]
    ALIKE = (
        [("not", 0, 0)],
        [("two", 0, op, 0, 1) for op in (2, 4, 6, 11)],
        [("two", 0, op, 1, 0) for op in (2, 4, 6, 11)],
        [("two", 0, 1, 0, 0)],
        [("two", 0, 6, 0, 0)],
        [("choose", 0, 0, 1, 2)],
        [("choose", 0, 1, 0, 2)],
        [("choose", 0, 1, 2, 0)],
        [("choose", 0, 0, 0, 1)],
        [("choose", 0, 0, 1, 0)],
        [("choose", 0, 1, 0, 0)],
        [("choose", 0, 0, 0, 0)],
        [("fix", 0, 0, 0, 1), ("fix", 0, 0, 2, 0)],
        [("fix", 0, 0, 9, 0)],
        [("some", 0, 0, 2)],
        [("some", 0, 0, 0), ("some", 0, 0, 1)],
        [("all", 0, 0, 2)],
        [("all", 0, 0, 1), ("all", 0, 0, 2)],
        [("put", 0, 0, 2, 1)],
        [("put", 0, 1, 9, 0)],
        [("put", 0, 0, 1, 0)],
        [("put", 0, 0, 0, 0), ("put", 0, 0, 2, 0)],
    )

    def test_each_call(self):
        for calls in self.ALIKE:
            reckoning, wanted = reckoned(self.START + calls)
            self.assertEqual(told(self.START + calls), wanted, calls)
            self.assertEqual(cases_read(self.START + calls, 0), reckoning.sets[0], calls)

    def test_what_was_made_from_a_register_stays_when_that_is_written_anew(self):
        for name, rest in (("not", (0,)), ("two", (12, 0, 0)), ("choose", (0, 0, 0)),
                           ("fix", (0, 7, 1)), ("some", (0, 7)), ("all", (0, 7)),
                           ("put", (0, 7, 2))):
            calls = self.START + [(name, 15, *rest), ("const", 0, 1)]
            reckoning, wanted = reckoned(calls)
            self.assertEqual(told(calls), wanted, name)
            self.assertEqual(cases_read(calls, 15), reckoning.sets[15], name)
            self.assertEqual(cases_read(calls, 0), ALL_CASES, name)


class RandomLines(unittest.TestCase):
    def test_lines_of_a_hundred_calls_that_put_functions_into_registers(self):
        for seed in range(60):
            calls = random_calls(seed, 100, MAKING, wrong=0.1 if seed % 2 else 0.0)
            self.assertEqual(told(calls), reckoned(calls)[1], seed)

    def test_lines_of_a_hundred_calls_that_mix_all_sixteen(self):
        asked = dict.fromkeys(NAMES, 0)
        refusals = set()
        for seed in range(60):
            names = NAMES + 2 * ("choose", "two") if seed % 3 else NAMES
            calls = random_calls(1000 + seed, 100, names, wrong=0.1 if seed % 2 else 0.0)
            given = told(calls)
            self.assertEqual(given, reckoned(calls)[1], seed)
            for call, answer in zip(calls, given):
                asked[call[0]] += 1
                refusals.add((call[0], min(answer[0], 0)))
        # That the lines are a test of each call and of each refusal at all.
        self.assertGreater(min(asked.values()), 100)
        for name in NAMES:
            self.assertTrue({(name, 0), (name, -1)} <= refusals, name)
        self.assertTrue({("first", -5), ("best", -6)} <= refusals)

    def test_each_case_behind_lines_of_fifty_calls(self):
        for seed in range(100, 106):
            calls = random_calls(seed, 50, MAKING, wrong=0.05)
            reckoning = reckoned(calls)[0]
            for r in (0, 7, 15):
                self.assertEqual(cases_read(calls, r), reckoning.sets[r], (seed, r))


if __name__ == "__main__":
    unittest.main()
