"""The interface: how calls and answers are laid out, and what is kept of them."""

import unittest

from sealedstream.end import answers
from tests.helper import (
    END, FIRST_MESSAGE, FIRST_OWN, FIRST_PUBLIC, RENEW, SECOND_MESSAGE, came, open_first, public, shared, take, write)


class Layout(unittest.TestCase):
    def test_numbers_as_they_stand(self):
        self.assertEqual(answers([7, 5]), [1, 0])
        self.assertEqual(answers([7, -1]), [1, -1])
        self.assertEqual(answers([2, 3, 1, 2, 3, 7, 0]), [1, -1, 1, 0])
        self.assertEqual(answers([4, 0, 5, 6, 8, 2, 9, 9]), [1, -4, 1, -4, 1, -4, 1, -4])
        self.assertEqual(answers([1, 7, 7, 0, 0, 0, 7, 1]), [1, -1, 1, 0])

    def test_public_key_behind_its_count(self):
        self.assertEqual(answers([2, 32] + FIRST_OWN), [33, 32] + FIRST_PUBLIC)

    def test_open_write_renew_end_take(self):
        calls = open_first() + came(SECOND_MESSAGE) + write([1, 2]) + RENEW + END + take(48) + take(0)
        self.assertEqual(answers(calls), [1, 0, 1, 0, 1, 2, 1, 1, 1, 0, 49, 48] + FIRST_MESSAGE + [1, 0])

    def test_numbers_are_whole_numbers_alone(self):
        calls = open_first() + came(SECOND_MESSAGE) + write([1]) + RENEW + END + take(500) + shared(FIRST_OWN, [0] * 32)
        answered = answers(calls)
        self.assertIs(type(answered), list)
        self.assertEqual({type(number) for number in answered}, {int})

    def test_as_many_calls_as_there_may_be(self):
        calls = open_first() + came(SECOND_MESSAGE) + RENEW * 298
        self.assertEqual(answers(calls), [1, 0, 1, 0] + [n for count in range(1, 299) for n in (1, count)])

    def test_as_long_as_a_line_may_be(self):
        calls = open_first() + came(SECOND_MESSAGE) + write([9] * 25000)
        calls += write([8] * (30000 - len(calls) - 2))
        self.assertEqual(len(calls), 30000)
        self.assertEqual(answers(calls)[:6], [1, 0, 1, 0, 1, 25000])


class NothingKept(unittest.TestCase):
    def test_what_is_handed_in_is_not_changed(self):
        calls = open_first(1) + came(SECOND_MESSAGE) + write([1] * 20) + write([2]) + RENEW + END + take(9)
        calls += public(FIRST_OWN) + shared(FIRST_OWN, FIRST_PUBLIC)
        before = list(calls)
        answers(calls)
        self.assertEqual(calls, before)

    def test_each_time_is_as_the_first(self):
        calls = open_first(1) + came(SECOND_MESSAGE) + write([1] * 20) + write([2]) + RENEW + END + take(500)
        expected = answers(list(calls))
        self.assertEqual(answers(take(100) + write([1])), [1, 0, 1, -4])
        self.assertEqual(answers(calls), expected)

    def test_answers_are_not_what_is_kept(self):
        answered = answers(public(FIRST_OWN))
        answered.clear()
        self.assertEqual(answers(public(FIRST_OWN)), [33, 32] + FIRST_PUBLIC)


if __name__ == "__main__":
    unittest.main()
