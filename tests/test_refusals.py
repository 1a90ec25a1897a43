"""D5 by the interface: refused just as told, with -1 alone and nothing changed."""

import unittest

from examples import ALL_TEN, PARITY
from reckoning import BIGGEST, GREATEST, NAMES, PLACES, RISING, cases_read, reckoned, told, values_read

# Sixteen functions, no two of them yes in as many cases.
FILLED = [("var", 0, 0)]
for filled in range(1, 10):
    FILLED += [("var", filled, filled), ("two", filled, 8, filled, filled - 1)]
for filled in range(10, 16):
    FILLED.append(("not", filled, 19 - filled))
FILLED_COUNTS = [512, 256, 128, 64, 32, 16, 8, 4, 2, 1, 1023, 1022, 1020, 1016, 1008, 992]

# A call of each kind that nothing refuses.
RIGHT = {
    "const": (3, 1),
    "var": (3, 4),
    "not": (3, 12),
    "two": (3, 6, 12, 5),
    "choose": (3, 12, 5, 11),
    "fix": (3, 5, 4, 1),
    "some": (3, 5, 4),
    "all": (3, 5, 4),
    "put": (3, 12, 4, 5),
    "value": (12, 77),
    "count": (12,),
    "first": (12, 77),
    "matters": (12,),
    "diagram": (12, RISING),
    "best": (2,),
    "within": (5, 12),
}
WRONG_ORDERS = ([], RISING[:9], RISING + [10], RISING[:9] + [8], [10] + RISING[1:], [BIGGEST] * 40)


def counts_of_all():
    """Calls that answer each register's count and change nothing."""
    return [("two", r, 12, r, r) for r in range(16)]


def diagrams_of_all():
    """Calls that answer each register's diagram: just what function is in it."""
    return [("diagram", r, RISING) for r in range(16)]


def wrong_numbers(place):
    """Numbers from the first that's too great to the greatest that may be handed in."""
    if place == "order":
        return WRONG_ORDERS
    if place == "number":
        return ()
    first = GREATEST[place] + 1
    numbers = (first, first + 1, first + 15, 31, 100, 1024, 2**31, 2**32, 2**62, BIGGEST)
    return tuple(n for n in numbers if n >= first)


def wrong_calls(name):
    """Calls of that name with one number wrong, in each place."""
    for at, place in enumerate(PLACES[name]):
        for wrong in wrong_numbers(place):
            numbers = list(RIGHT[name])
            numbers[at] = wrong
            yield (name, *numbers)


FILLED_DIAGRAMS = told(FILLED + diagrams_of_all())[-16:]


class Refusals(unittest.TestCase):
    def check_refused(self, call, refusal=-1):
        """The call is answered by its refusal alone, and each register is as before."""
        given = told(FILLED + [call] + counts_of_all() + diagrams_of_all())
        self.assertEqual(given[len(FILLED)], [refusal], call)
        self.assertEqual(given[len(FILLED) + 1:-16], [[n] for n in FILLED_COUNTS], call)
        self.assertEqual(given[-16:], FILLED_DIAGRAMS, call)

    def test_each_call_in_each_place(self):
        for name in NAMES:
            right = (name, *RIGHT[name])
            self.assertEqual(told(FILLED + [right]), reckoned(FILLED + [right])[1])
            self.assertGreaterEqual(told(FILLED + [right])[-1][0], 0)
            for call in wrong_calls(name):
                with self.subTest(call):
                    self.check_refused(call)

    def test_all_numbers_wrong_at_once(self):
        for name, places in PLACES.items():
            for at in (0, -1):
                wrong = [wrong_numbers(place)[at] if wrong_numbers(place) else BIGGEST
                         for place in places]
                self.check_refused((name, *wrong))

    def test_the_last_number_that_is_taken_in_each_place(self):
        for name, places in PLACES.items():
            for at, place in enumerate(places):
                for taken in (RISING,) if place == "order" else (0, GREATEST[place]):
                    numbers = list(RIGHT[name])
                    numbers[at] = taken
                    calls = FILLED + [(name, *numbers)]
                    given = told(calls)
                    self.assertEqual(given, reckoned(calls)[1])
                    self.assertNotEqual(given[-1], [-1], (name, numbers))

    def test_a_wrong_number_is_refused_where_it_could_not_matter(self):
        self.check_refused(("two", 3, 0, 16, 5))
        self.check_refused(("two", 3, 15, 5, 16))
        self.check_refused(("two", 3, 12, 5, 16))
        no, always = 1, 2
        start = [("const", no, 0), ("const", always, 1)]
        self.assertEqual(told(start + [("choose", 0, always, no, 16)])[-1], [-1])
        self.assertEqual(told(start + [("choose", 0, no, 16, always)])[-1], [-1])
        self.assertEqual(told(start + [("fix", 0, no, 10, 0)])[-1], [-1])
        self.assertEqual(told(start + [("some", 0, no, 10)])[-1], [-1])
        self.assertEqual(told(start + [("all", 0, always, 10)])[-1], [-1])
        self.assertEqual(told(start + [("put", 0, always, 10, no)])[-1], [-1])
        self.assertEqual(told(start + [("put", 0, always, 9, 16)])[-1], [-1])
        self.assertEqual(told(start + [("within", no, 16)])[-1], [-1])

    def test_a_register_above_15_comes_ahead_of_each_other_refusal(self):
        for a in (16, 17, 31, 1024, 2**32, BIGGEST):
            for m in (1023, 1024, BIGGEST):
                self.check_refused(("value", a, m))
                self.check_refused(("first", a, m))
            self.check_refused(("best", a))
            for o in (RISING, *WRONG_ORDERS):
                self.check_refused(("diagram", a, o))
            self.check_refused(("within", a, 16))
            self.check_refused(("within", 16, a))
            self.check_refused(("within", 0, a))
            self.check_refused(("within", a, 0))
            self.check_refused(("put", 3, 5, 10, a))
            self.check_refused(("put", a, 5, 10, 5))

    def test_the_other_refusals_stand_where_nothing_is_too_great(self):
        # Register 9 says yes in the last case alone, 10 says no there; ten variables matter to both.
        for m in (1024, 1025, 2**32, BIGGEST):
            self.check_refused(("first", 9, m), -5)
            self.check_refused(("first", 10, m), -5)
        self.check_refused(("first", 10, 1023), -5)
        # To register r up to 9 the variables 0 to r matter, to those behind as many as to 19 - r.
        for r in range(16):
            how_many = min(r, 19 - r) + 1
            if how_many > 5:
                self.check_refused(("best", r), -6)
            else:
                given = told(FILLED + [("best", r)])[-1]
                self.assertEqual(given, [how_many, how_many, *range(how_many)])

    def test_refusals_of_calls_that_only_ask_change_no_case(self):
        for calls, refused in (
                (PARITY, [("best", 0), ("value", 0, 1024), ("matters", 16), ("count", 16)]),
                (ALL_TEN, [("first", 0, 1024), ("diagram", 0, []), ("within", 0, 16)])):
            before = values_read(calls, 0)
            self.assertEqual(values_read(calls + refused, 0), before)
            self.assertEqual(before, reckoned(calls)[0].sets[0])

    def test_a_refusal_changes_no_case_of_the_register(self):
        start = [("var", 3, 1), ("var", 4, 8), ("two", 3, 11, 3, 4)]
        before = cases_read(start, 3)
        for call in (("const", 3, 2), ("var", 3, 10), ("not", 3, 16), ("two", 3, 16, 4, 4),
                     ("choose", 3, 4, 4, 16), ("fix", 3, 4, 8, 2), ("some", 3, 4, 10),
                     ("all", 3, 16, 8), ("put", 3, 4, 10, 4), ("put", 3, 4, 8, 16)):
            self.assertEqual(values_read(start + [call], 3), before, call)

    def test_a_line_goes_on_behind_refusals(self):
        given = told([("const", 16, 1), ("var", 0, 10), ("var", 0, 9), ("not", 0, 16),
                      ("two", 1, 16, 0, 0), ("not", 1, 0), ("const", 0, 2), ("two", 2, 14, 0, 1)])
        self.assertEqual(given, [[-1], [-1], [512], [-1], [-1], [512], [-1], [1024]])
        given = told([("first", 0, 0), ("diagram", 0, [0] * 40), ("not", 0, 0), ("value", 0, 1024),
                      ("best", 16), ("best", 0), ("diagram", 0, []), ("count", 0)])
        self.assertEqual(given, [[-5], [-1], [1024], [-1], [-1], [0, 0], [-1], [1024]])


if __name__ == "__main__":
    unittest.main()
