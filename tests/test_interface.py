"""The interface: what `answers` takes and gives back, and that it keeps nothing."""

import unittest

from reckoning import BIGGEST, line
from tenquestions.desk import answers

LINE = [
    1, 0, 0,
    1, 15, 9,
    3, 2, 8, 0, 15,
    2, 3, 2,
    4, 4, 0, 3, 15,
    5, 5, 4, 9, 1,
    6, 6, 2, 0,
    7, 7, 3, 9,
    0, 8, 1,
    0, 16, 1,
    8, 9, 3, 9, 0,
    9, 3, 513,
    10, 2,
    11, 2, 5,
    12, 4,
    13, 2, 10, 9, 8, 7, 6, 5, 4, 3, 2, 1, 0,
    13, 2, 0,
    14, 4,
    15, 2, 0,
    15, 0, 2,
]
LINE_ANSWERS = [
    1, 512, 1, 512, 1, 256, 1, 768, 1, 512, 1, 512, 1, 512, 1, 512, 1, 1024, 1, -1,
    1, 512, 1, 0, 1, 256, 1, 513, 4, 2, 2, 0, 9, 10, 2, 1, 2, 6, 9, 0, 3, 0, 0, 1, 1, -1,
    4, 3, 2, 0, 9, 1, 1, 3, 0, 1, 1,
]
RISING = list(range(10))
PAIRS = [1, 0, 0, 1, 1, 1, 3, 4, 8, 0, 1, 1, 2, 2, 1, 3, 3, 3, 5, 8, 2, 3, 3, 6, 14, 4, 5]
PAIRS_ANSWERS = [1, 512, 1, 512, 1, 256, 1, 512, 1, 512, 1, 256, 1, 448]


class Unchanging(list):
    """A list that fails when it's changed, even if only for a while."""

    def changed(self, *args, **kwargs):
        raise AssertionError("the list that was handed in is changed")

    __setitem__ = __delitem__ = __iadd__ = __imul__ = changed
    append = extend = insert = pop = remove = clear = sort = reverse = changed


class Interface(unittest.TestCase):
    def test_the_run_that_the_document_tells(self):
        self.assertEqual(answers([1, 0, 0]), [1, 512])
        given = answers(PAIRS + [13, 6, 10, 0, 1, 2, 3, 4, 5, 6, 7, 8, 9])
        diagram = [4, 1, 2, 12, 0, 3, 5, 2, 0, 4, 3, 0, 1, 1, 3, 1]
        self.assertEqual(given, PAIRS_ANSWERS + [len(diagram)] + diagram)

    def test_each_call_by_its_number(self):
        self.assertEqual(answers(LINE), LINE_ANSWERS)

    def test_a_call_takes_just_its_numbers(self):
        numbers = {0: 2, 1: 2, 2: 2, 3: 4, 4: 4, 5: 4, 6: 3, 7: 3, 8: 4,
                   9: 2, 10: 1, 11: 2, 12: 1, 14: 1, 15: 2}
        for number, how_many in numbers.items():
            given = answers([number] + [0] * how_many + [0, 1, 1])
            self.assertEqual(given[given[0] + 1:], [1, 1024], number)

    def test_the_list_of_a_diagram_has_its_length_ahead(self):
        for length in range(41):
            given = answers([13, 0, length] + [0] * length + [0, 1, 1])
            self.assertEqual(given, [1, -1, 1, 1024], length)
            given = answers([13, 0, length] + list(range(length)) + [0, 1, 1])
            wanted = [4, 0, 1, 0, 0] if length == 10 else [1, -1]
            self.assertEqual(given, wanted + [1, 1024], length)
        self.assertEqual(answers([13, 16, 0] * 100), [1, -1] * 100)
        self.assertEqual(answers(([13, 0, 40] + [14] * 40) * 100), [1, -1] * 100)
        # A list may look as if calls stood in it.
        self.assertEqual(answers([13, 0, 6, 0, 1, 1, 2, 0, 0, 10, 0, 13, 0, 1, 13, 10, 1]),
                         [1, -1, 1, 0, 1, -1, 1, 0])

    def test_each_list_that_is_answered_has_its_length_ahead(self):
        begin = PAIRS + [2, 7, 7]
        for call, wanted in (
                ([12, 6], [4, 4, 0, 1, 2, 3]), ([12, 7], [0, 0]),
                ([13, 4, 10] + RISING, [2, 1, 2, 6, 0, 0, 3, 1, 0, 1]),
                ([13, 7, 10] + RISING, [0, 1, 1, 0]),
                ([14, 6], [4, 4, 0, 1, 2, 3]), ([14, 7], [0, 0]),
                ([15, 6, 7], [1]), ([15, 7, 6], [0, 1, 0]), ([15, 6, 4], [0, 1, 12]),
                ([9, 6, 3], [1]), ([10, 6], [448]), ([11, 6, 4], [7]), ([8, 6, 6, 0, 1], [640]),
                ([9, 6, 1024], [-1]), ([11, 7, 1024], [-5])):
            given = answers(begin + call)
            self.assertEqual(given, PAIRS_ANSWERS + [1, 1024, len(wanted)] + wanted, call)

    def test_the_empty_list(self):
        self.assertEqual(answers([]), [])

    def test_a_hundred_calls(self):
        self.assertEqual(answers([2, 0, 0] * 100), [1, 1024, 1, 0] * 50)
        self.assertEqual(answers([7, 15, 15, 9] * 100), [1, 0] * 100)
        self.assertEqual(answers([4, 16, 0, 0, 0] * 100), [1, -1] * 100)
        self.assertEqual(answers([0, 15, 1] + [3, 15, 6, 15, 15, 2, 15, 15] * 49 + [1, 15, 9]),
                         [1, 1024] + [1, 0, 1, 1024] * 49 + [1, 512])
        self.assertEqual(answers(PAIRS + [14, 6] * 93), PAIRS_ANSWERS + [6, 4, 4, 0, 1, 2, 3] * 93)

    def test_the_greatest_numbers(self):
        for call in ((0, BIGGEST, BIGGEST), (1, BIGGEST, BIGGEST), (2, BIGGEST, BIGGEST),
                     (3, 0, BIGGEST, 0, 0), (4, 0, 0, BIGGEST, BIGGEST), (5, 0, 0, BIGGEST, 0),
                     (6, 0, 0, BIGGEST), (7, BIGGEST, 0, 0), (8, 0, 0, BIGGEST, 0),
                     (9, BIGGEST, 0), (9, 0, BIGGEST), (10, BIGGEST), (11, BIGGEST, BIGGEST),
                     (12, BIGGEST), (13, BIGGEST, 10, *RISING), (13, 0, 1, BIGGEST),
                     (13, 0, 10, BIGGEST, *RISING[1:]), (13, 0, 40, *[BIGGEST] * 40),
                     (14, BIGGEST), (15, BIGGEST, 0), (15, 0, BIGGEST)):
            self.assertEqual(answers(list(call) + [2, 0, 0]), [1, -1, 1, 1024], call)

    def test_gives_back_a_list_of_plain_whole_numbers(self):
        given = answers(LINE)
        self.assertIs(type(given), list)
        for number in given:
            self.assertIs(type(number), int)

    def test_what_is_handed_in_stays_as_it_was(self):
        handed = list(LINE)
        answers(handed)
        self.assertEqual(handed, LINE)
        self.assertEqual(answers(Unchanging(LINE)), LINE_ANSWERS)

    def test_a_second_time_is_as_the_first(self):
        for again in range(3):
            self.assertEqual(answers(LINE), LINE_ANSWERS)

    def test_nothing_is_kept_in_the_registers(self):
        answers(line([("const", r, 1) for r in range(16)]))
        for a in range(16):
            self.assertEqual(answers([2, 0, a]), [1, 1024])

    def test_what_was_given_back_is_the_caller_s(self):
        first = answers(LINE)
        first.clear()
        second = answers(LINE)
        self.assertEqual(second, LINE_ANSWERS)
        self.assertIsNot(first, second)


if __name__ == "__main__":
    unittest.main()
