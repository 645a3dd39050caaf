"""The interface: aheadloads.machine.answers(calls)."""

import unittest

from aheadloads.machine import NoSuchCall, answers
from tests.calls_of import (
    begin, get, load, load_too_long, look, program, program_too_long, run, set_to, why, word,
)
from tests.comparing import Comparing

SEVERAL = (
    begin() + program([1, 2, 3]) + load(5, [10, 20]) + look(4, 4)
    + program_too_long(4097) + load(65535, [1, 1]) + load_too_long(0, 65537) + look(65536, 1)
    + look(65536, 0) + begin() + look(5, 2)
    + why() + program([word(30, x=40, z=1, n=4), word(31, y=1, z=0, n=0), word(0)]) + set_to(1, 65536) + run(9) + why()
    + get(40) + get(1) + get(140) + get(143) + set_to(0, 1) + run(10000001) + why()
)
SEVERAL_ANSWERS = [
    1, 0, 1, 0, 1, 0, 5, 0, 0, 10, 20, 0,
    1, -1, 1, -1, 1, -1, 1, -1,
    1, 0, 1, 0, 3, 0, 0, 0,
    1, 0, 1, 0, 1, 0, 1, 2, 1, 1,
    1, -2, 2, 0, 65536, 2, 0, 2, 1, -1, 1, -1, 1, -1, 1, 1,
]


class Interface(Comparing):
    def test_the_form_of_several_answers(self):
        self.assertEqual(answers(list(SEVERAL)), SEVERAL_ANSWERS)

    def test_a_list_of_whole_numbers_is_given_back(self):
        told = answers(list(SEVERAL))
        self.assertIs(type(told), list)
        self.assertEqual({type(number) for number in told}, {int})

    def test_what_is_handed_in_is_not_changed(self):
        calls = list(SEVERAL)
        answers(calls)
        self.assertEqual(calls, SEVERAL)

    def test_what_is_handed_in_is_only_read(self):
        class OnlyRead(list):
            def refuse(self, *args):
                raise AssertionError("the list handed in was changed")

            __setitem__ = __delitem__ = __iadd__ = __imul__ = refuse
            append = clear = extend = insert = pop = remove = reverse = sort = refuse

        self.assertEqual(answers(OnlyRead(SEVERAL)), SEVERAL_ANSWERS)

    def test_nothing_is_kept_from_one_time_to_the_next(self):
        first = answers(list(SEVERAL))
        answers(begin() + program([9] * 4096) + load(0, [255] * 100))
        self.assertEqual(answers(list(SEVERAL)), first)
        self.assertEqual(answers(begin() + look(0, 100)), [1, 0, 101, 0] + [0] * 100)

    def test_what_is_given_back_is_not_kept(self):
        answers(list(SEVERAL)).clear()
        self.assertEqual(answers(list(SEVERAL)), SEVERAL_ANSWERS)

    def test_many_calls_behind_one_another(self):
        calls = begin()
        expected = [1, 0]
        for k in range(199):
            calls = calls + load(k, [k]) + look(k, 2)
            expected = expected + [1, 0, 3, 0, k, 0]
        self.assertEqual(answers(calls), expected)

    def test_every_call_has_an_answer(self):
        for call in (begin(), program([]), load(0, []), look(0, 0), run(0), why(), get(1), set_to(1, 0)):
            with self.subTest(call=call):
                told = answers(begin() + call)
                self.assertEqual(told, [1, 0] + ([2, 0, 0] if call == get(1) else [1, 0]))

    def test_another_number_is_no_call(self):
        for call in (8, -1, 4294967295):
            with self.subTest(call=call):
                with self.assertRaises(NoSuchCall):
                    answers([0, call])


if __name__ == "__main__":
    unittest.main()
