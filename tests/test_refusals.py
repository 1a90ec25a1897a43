"""D5 by the interface: refused just as told, with -1 alone and nothing changed."""

import unittest

from reckoning import BIGGEST, GREATEST, PLACES, cases_read, told

# Sixteen functions, no two of them yes in as many cases.
FILLED = [("var", 0, 0)]
for filled in range(1, 10):
    FILLED += [("var", filled, filled), ("two", filled, 8, filled, filled - 1)]
for filled in range(10, 16):
    FILLED.append(("not", filled, 19 - filled))
FILLED_COUNTS = [512, 256, 128, 64, 32, 16, 8, 4, 2, 1, 1023, 1022, 1020, 1016, 1008, 992]

# A call of each kind that nothing refuses.
RIGHT = {
    "const": (3, 1),
    "var": (3, 4),
    "not": (3, 12),
    "two": (3, 6, 12, 5),
    "choose": (3, 12, 5, 11),
    "fix": (3, 5, 4, 1),
    "some": (3, 5, 4),
    "all": (3, 5, 4),
}


def counts_of_all():
    """Calls that answer each register's count and change nothing."""
    return [("two", r, 12, r, r) for r in range(16)]


def wrong_numbers(place):
    """Numbers from the first that's too great to the greatest that may be handed in."""
    first = GREATEST[place] + 1
    return (first, first + 1, first + 15, 31, 100, 1024, 2**31, 2**32, 2**62, BIGGEST)


def wrong_calls(name):
    """Calls of that name with one number wrong, in each place."""
    for at, place in enumerate(PLACES[name]):
        for wrong in wrong_numbers(place):
            numbers = list(RIGHT[name])
            numbers[at] = wrong
            yield (name, *numbers)


class Refusals(unittest.TestCase):
    def check_refused(self, call):
        """The call is answered by -1 alone, and each register is as before."""
        given = told(FILLED + [call] + counts_of_all())
        self.assertEqual(given[len(FILLED)], [-1], call)
        self.assertEqual(given[len(FILLED) + 1:], [[n] for n in FILLED_COUNTS], call)

    def check_each_place(self, name):
        self.assertNotEqual(told(FILLED + [(name, *RIGHT[name])])[-1], [-1])
        for call in wrong_calls(name):
            self.check_refused(call)

    def test_const(self):
        self.check_each_place("const")

    def test_var(self):
        self.check_each_place("var")

    def test_not(self):
        self.check_each_place("not")

    def test_two(self):
        self.check_each_place("two")

    def test_choose(self):
        self.check_each_place("choose")

    def test_fix(self):
        self.check_each_place("fix")

    def test_some(self):
        self.check_each_place("some")

    def test_all(self):
        self.check_each_place("all")

    def test_all_numbers_wrong_at_once(self):
        for name, places in PLACES.items():
            self.check_refused((name, *[GREATEST[place] + 1 for place in places]))
            self.check_refused((name, *[BIGGEST for place in places]))

    def test_the_last_number_that_is_taken_in_each_place(self):
        for name, places in PLACES.items():
            for at, place in enumerate(places):
                for taken in (0, GREATEST[place]):
                    numbers = list(RIGHT[name])
                    numbers[at] = taken
                    given = told(FILLED + [(name, *numbers)])[-1]
                    self.assertEqual(len(given), 1)
                    self.assertTrue(0 <= given[0] <= 1024, (name, numbers, given))

    def test_a_wrong_number_is_refused_where_it_could_not_matter(self):
        self.check_refused(("two", 3, 0, 16, 5))
        self.check_refused(("two", 3, 15, 5, 16))
        self.check_refused(("two", 3, 12, 5, 16))
        no, always = 1, 2
        start = [("const", no, 0), ("const", always, 1)]
        self.assertEqual(told(start + [("choose", 0, always, no, 16)])[-1], [-1])
        self.assertEqual(told(start + [("choose", 0, no, 16, always)])[-1], [-1])
        self.assertEqual(told(start + [("fix", 0, no, 10, 0)])[-1], [-1])
        self.assertEqual(told(start + [("some", 0, no, 10)])[-1], [-1])
        self.assertEqual(told(start + [("all", 0, always, 10)])[-1], [-1])

    def test_a_refusal_changes_no_case_of_the_register(self):
        start = [("var", 3, 1), ("var", 4, 8), ("two", 3, 11, 3, 4)]
        before = cases_read(start, 3)
        for call in (("const", 3, 2), ("var", 3, 10), ("not", 3, 16), ("two", 3, 16, 4, 4),
                     ("choose", 3, 4, 4, 16), ("fix", 3, 4, 8, 2), ("some", 3, 4, 10),
                     ("all", 3, 16, 8)):
            self.assertEqual(cases_read(start + [call], 3), before, call)

    def test_a_line_goes_on_behind_refusals(self):
        given = told([("const", 16, 1), ("var", 0, 10), ("var", 0, 9), ("not", 0, 16),
                      ("two", 1, 16, 0, 0), ("not", 1, 0), ("const", 0, 2), ("two", 2, 14, 0, 1)])
        self.assertEqual(given, [[-1], [-1], [512], [-1], [-1], [512], [-1], [1024]])


if __name__ == "__main__":
    unittest.main()
