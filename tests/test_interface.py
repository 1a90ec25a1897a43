"""The interface: what `answers` takes and gives back, and that it keeps nothing."""

import unittest

from reckoning import BIGGEST, line
from tenquestions.desk import answers

LINE = [
    1, 0, 0,
    1, 15, 9,
    3, 2, 8, 0, 15,
    2, 3, 2,
    4, 4, 0, 3, 15,
    5, 5, 4, 9, 1,
    6, 6, 2, 0,
    7, 7, 3, 9,
    0, 8, 1,
    0, 16, 1,
]
LINE_ANSWERS = [1, 512, 1, 512, 1, 256, 1, 768, 1, 512, 1, 512, 1, 512, 1, 512, 1, 1024, 1, -1]


class Unchanging(list):
    """A list that fails when it's changed, even if only for a while."""

    def changed(self, *args, **kwargs):
        raise AssertionError("the list that was handed in is changed")

    __setitem__ = __delitem__ = __iadd__ = __imul__ = changed
    append = extend = insert = pop = remove = clear = sort = reverse = changed


class Interface(unittest.TestCase):
    def test_the_run_that_the_document_tells(self):
        self.assertEqual(answers([1, 0, 0]), [1, 512])

    def test_each_call_by_its_number(self):
        self.assertEqual(answers(LINE), LINE_ANSWERS)

    def test_a_call_takes_just_its_numbers(self):
        numbers = {0: 2, 1: 2, 2: 2, 3: 4, 4: 4, 5: 4, 6: 3, 7: 3}
        for number, how_many in numbers.items():
            given = answers([number] + [0] * how_many + [0, 1, 1])
            self.assertEqual(len(given), 4, number)
            self.assertEqual(given[2:], [1, 1024], number)

    def test_the_empty_list(self):
        self.assertEqual(answers([]), [])

    def test_a_hundred_calls(self):
        self.assertEqual(answers([2, 0, 0] * 100), [1, 1024, 1, 0] * 50)
        self.assertEqual(answers([7, 15, 15, 9] * 100), [1, 0] * 100)
        self.assertEqual(answers([4, 16, 0, 0, 0] * 100), [1, -1] * 100)
        self.assertEqual(answers([0, 15, 1] + [3, 15, 6, 15, 15, 2, 15, 15] * 49 + [1, 15, 9]),
                         [1, 1024] + [1, 0, 1, 1024] * 49 + [1, 512])

    def test_the_greatest_numbers(self):
        for call in ((0, BIGGEST, BIGGEST), (1, BIGGEST, BIGGEST), (2, BIGGEST, BIGGEST),
                     (3, 0, BIGGEST, 0, 0), (4, 0, 0, BIGGEST, BIGGEST), (5, 0, 0, BIGGEST, 0),
                     (6, 0, 0, BIGGEST), (7, BIGGEST, 0, 0)):
            self.assertEqual(answers(list(call) + [2, 0, 0]), [1, -1, 1, 1024], call)

    def test_gives_back_a_list_of_plain_whole_numbers(self):
        given = answers(LINE)
        self.assertIs(type(given), list)
        for number in given:
            self.assertIs(type(number), int)

    def test_what_is_handed_in_stays_as_it_was(self):
        handed = list(LINE)
        answers(handed)
        self.assertEqual(handed, LINE)
        self.assertEqual(answers(Unchanging(LINE)), LINE_ANSWERS)

    def test_a_second_time_is_as_the_first(self):
        for again in range(3):
            self.assertEqual(answers(LINE), LINE_ANSWERS)

    def test_nothing_is_kept_in_the_registers(self):
        answers(line([("const", r, 1) for r in range(16)]))
        for a in range(16):
            self.assertEqual(answers([2, 0, a]), [1, 1024])

    def test_what_was_given_back_is_the_caller_s(self):
        first = answers(LINE)
        first.clear()
        second = answers(LINE)
        self.assertEqual(second, LINE_ANSWERS)
        self.assertIsNot(first, second)


if __name__ == "__main__":
    unittest.main()
