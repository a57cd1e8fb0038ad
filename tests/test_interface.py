import contextlib
import io
import unittest

from nearestsites import land
from nearestsites.land import answers
from tests.helper import (
    AROUND, CLOSEST, LONELIEST, SITES, add, adds, beside, cell, gone, joined, nearest, told, within)

MIXED = joined([
    nearest(0, 1, 0, 1), LONELIEST, CLOSEST, AROUND, SITES, add(1, 2), add(1, 2), add(-7, 30), add(101, 0),
    nearest(1, 2, 3, 4), within(900, 0, 1, 1, 7), cell(1), beside(1), LONELIEST, CLOSEST, AROUND, SITES,
    gone(0), gone(0), cell(1), add(1, 2), nearest(1, 0, 1, 1), cell(2), cell(0), beside(0), add(60, -9),
    LONELIEST, AROUND, CLOSEST,
])


class Guarded(list):
    """A list that can't be changed, not for a while either."""

    def refuse(self, *given, **named):
        raise AssertionError("what was handed in is changed")

    append = extend = insert = pop = remove = clear = sort = reverse = refuse
    __setitem__ = __delitem__ = __iadd__ = __imul__ = refuse


class Interface(unittest.TestCase):
    def test_a_whole_line(self):
        line = [
            2, 0, 1, 0, 1, 0, 0, 0, 0, 0, 0, 0, 100, 0, 0, 0, 101, 2, 50, 1, 0, 1, 3, 2500, 0, 1, 0, 1,
            3, 9, 0, 0, 0, 1, 4, 1, 1, 0, 1, 0, 4, 0, 0, 0, 0,
        ]
        self.assertEqual(answers(line), [
            1, -6, 1, 0, 1, -4, 1, 1, 1, -1, 5, 2, 2500, 1, 0, 1, 2, 1, 0,
            1, -1, 19, 4, 10000, 1, 50, 1, -100, 1, 100, 1, -100, 1, 100, 1, 100, 1, 50, 1, 100, 1,
            1, 1, 1, -3, 1, -3, 1, 2,
        ])

    def test_the_answer_is_a_list_of_whole_numbers(self):
        numbers = answers(list(MIXED))
        self.assertIs(type(numbers), list)
        self.assertEqual({type(number) for number in numbers}, {int})

    def test_forty_calls(self):
        calls = adds([(k, -k) for k in range(8)]) + [cell(k % 8) for k in range(30)] + [gone(0), add(0, 0)]
        self.assertEqual(len(calls), 40)
        self.assertEqual(told(calls)[38:], [[7], [8]])

    def test_forty_of_each_call_without_numbers(self):
        self.assertEqual(answers([9] * 40), [1, 0] * 40)
        self.assertEqual(answers([6] * 40), [1, -6] * 40)
        self.assertEqual(answers([7] * 40), [1, -6] * 40)
        self.assertEqual(answers([8] * 40), [1, -6] * 40)

    def test_the_ten_calls_behind_one_another(self):
        line = [0, -50, 0, 0, 50, 0, 9, 8, 7, 6, 5, 1, 4, 1, 3, 2500, 0, 1, 0, 1, 2, 0, 1, 0, 1, 1, 0, 9]
        self.assertEqual(answers(line), [
            1, 0, 1, 1, 7, 2, 0, -50, 0, 1, 50, 0, 6, 0, 1, 0, 1, 2500, 1, 4, 0, 1, 10000, 1,
            6, -100, 1, -100, 1, 12500, 1, 2, 1, 0,
            19, 4, 20000, 1, 0, 1, -100, 1, 100, 1, -100, 1, 100, 1, 100, 1, 0, 1, 100, 1,
            3, 2, 0, 1, 5, 2, 2500, 1, 0, 1, 1, 1, 4, 1, 1, 50, 0,
        ])

    def test_240_numbers(self):
        calls = [within(0, 0, 1, 0, 1)] * 40
        self.assertEqual(len(joined(calls)), 240)
        self.assertEqual(told(calls), [[0]] * 40)

    def test_what_is_handed_in_is_as_it_was(self):
        calls = list(MIXED)
        answers(calls)
        self.assertEqual(calls, MIXED)

    def test_what_is_handed_in_is_not_changed_for_a_while(self):
        self.assertEqual(answers(Guarded(MIXED)), answers(list(MIXED)))

    def test_nothing_is_kept(self):
        calls = list(MIXED)
        first = answers(calls)
        answers([0, 50, 50, 0, 60, 60, 4, 0])
        self.assertEqual(answers(calls), first)
        self.assertEqual(answers(calls), first)

    def test_what_is_given_back_is_new_each_time(self):
        first = answers(list(MIXED))
        kept = list(first)
        first.clear()
        self.assertEqual(answers(list(MIXED)), kept)

    def test_every_land_is_new(self):
        for expected in ([1, 0, 1, 1], [1, 0, 1, 1]):
            self.assertEqual(answers([0, 9, 9, 0, 8, 8]), expected)

    def test_the_module_is_as_it_was(self):
        before = {name: repr(value) for name, value in vars(land).items() if name.isupper()}
        answers(list(MIXED))
        self.assertEqual({name: repr(value) for name, value in vars(land).items() if name.isupper()}, before)

    def test_nothing_is_printed(self):
        with contextlib.redirect_stdout(io.StringIO()) as out, contextlib.redirect_stderr(io.StringIO()) as err:
            answers(list(MIXED))
        self.assertEqual(out.getvalue() + err.getvalue(), "")


if __name__ == "__main__":
    unittest.main()
