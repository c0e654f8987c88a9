"""The interface: how calls and answers are laid out, and what is kept of them."""

import unittest

from sealedstream.end import answers
from tests.helper import (
    CUT, END, FIRST_MESSAGE, FIRST_OWN, FIRST_PUBLIC, FIRST_STREAM, RENEW, SECOND_MESSAGE, STATE, SUNSCREEN_KEY,
    SUNSCREEN_NONCE, SUNSCREEN_SEALED, came, open_first, open_second, public, read, seal, shared, take, unseal, write)

EVERY_CALL = (
    open_second() + came(FIRST_MESSAGE + FIRST_STREAM) + write([1, 2]) + RENEW + END + take(500) + read(5) + CUT + STATE
    + public(FIRST_OWN) + shared(FIRST_OWN, FIRST_PUBLIC) + seal(SUNSCREEN_KEY, SUNSCREEN_NONCE, [1], [2, 3])
    + unseal(SUNSCREEN_KEY, SUNSCREEN_NONCE, [], SUNSCREEN_SEALED) + came([0, 0]) + STATE + CUT)


class Layout(unittest.TestCase):
    def test_numbers_as_they_stand(self):
        self.assertEqual(answers([7, 5]), [1, 0])
        self.assertEqual(answers([7, -1]), [1, -1])
        self.assertEqual(answers([2, 3, 1, 2, 3, 7, 0]), [1, -1, 1, 0])
        self.assertEqual(answers([4, 0, 5, 6, 8, 2, 9, 9]), [1, -4, 1, -4, 1, -4, 1, -4])
        self.assertEqual(answers([1, 7, 7, 0, 0, 0, 7, 1]), [1, -1, 1, 0])

    def test_numbers_of_the_later_calls(self):
        self.assertEqual(answers([9, 5]), [1, 0])
        self.assertEqual(answers([9, -1, 9, 65537]), [1, -1, 1, -1])
        self.assertEqual(answers([10, 10]), [1, -4, 1, -4])
        self.assertEqual(answers([11, 10]), [10] + [0] * 10 + [1, -4])
        self.assertEqual(answers([12, 0, 0, 0, 0, 10]), [1, -1, 1, -4])
        self.assertEqual(answers([13, 1, 5, 2, 6, 6, 0, 1, 9, 10]), [1, -1, 1, -4])

    def test_read_cut_state(self):
        calls = open_second() + came(FIRST_MESSAGE + FIRST_STREAM) + [9, 5, 9, 5, 9, 5, 10, 11]
        self.assertEqual(answers(calls), [1, 0, 1, 8, 6, 5] + list(b"hello") + [4, 3] + list(b"xyz") + [
            1, 0, 1, 1, 10, 2, 48, 0, 0, 0, 1, 0, 1, 0, 2])

    def test_seal_and_unseal(self):
        key_and_nonce = [32] + FIRST_OWN + [12] + [0] * 12
        answered = answers([12] + key_and_nonce + [1, 9, 3, 4, 5, 6])
        self.assertEqual((len(answered), answered[:2]), (21, [20, 19]))
        hidden = answered[2:]
        self.assertEqual(answers([13] + key_and_nonce + [1, 9, 19] + hidden), [4, 3, 4, 5, 6])
        self.assertEqual(answers([13] + key_and_nonce + [1, 8, 19] + hidden), [1, -3])

    def test_public_key_behind_its_count(self):
        self.assertEqual(answers([2, 32] + FIRST_OWN), [33, 32] + FIRST_PUBLIC)

    def test_open_write_renew_end_take(self):
        calls = open_first() + came(SECOND_MESSAGE) + write([1, 2]) + RENEW + END + take(48) + take(0)
        self.assertEqual(answers(calls), [1, 0, 1, 0, 1, 2, 1, 1, 1, 0, 49, 48] + FIRST_MESSAGE + [1, 0])

    def test_numbers_are_whole_numbers_alone(self):
        answered = answers(EVERY_CALL + shared(FIRST_OWN, [0] * 32))
        self.assertIs(type(answered), list)
        self.assertEqual({type(number) for number in answered}, {int})

    def test_as_many_calls_as_there_may_be(self):
        calls = open_first() + came(SECOND_MESSAGE) + RENEW * 298
        self.assertEqual(answers(calls), [1, 0, 1, 0] + [n for count in range(1, 299) for n in (1, count)])
        self.assertEqual(answers(STATE * 300), ([10] + [0] * 10) * 300)

    def test_as_long_as_a_line_may_be(self):
        calls = open_first() + came(SECOND_MESSAGE) + write([9] * 25000)
        calls += write([8] * (30000 - len(calls) - 2))
        self.assertEqual(len(calls), 30000)
        self.assertEqual(answers(calls)[:6], [1, 0, 1, 0, 1, 25000])


def refuse_change(*arguments):
    raise AssertionError("what was handed in is changed")


class Unchanging(list):
    append = extend = insert = pop = remove = clear = reverse = sort = refuse_change
    __setitem__ = __delitem__ = __iadd__ = __imul__ = refuse_change


class NothingKept(unittest.TestCase):
    def test_what_is_handed_in_is_not_changed(self):
        calls = list(EVERY_CALL)
        answers(calls)
        self.assertEqual(calls, EVERY_CALL)

    def test_it_is_not_changed_for_a_while_either(self):
        calls = Unchanging(EVERY_CALL)
        self.assertEqual(answers(calls), answers(list(EVERY_CALL)))

    def test_each_time_is_as_the_first(self):
        calls = open_first(1) + came(SECOND_MESSAGE) + write([1] * 20) + write([2]) + RENEW + END + take(500)
        expected = answers(list(calls))
        self.assertEqual(answers(take(100) + write([1])), [1, 0, 1, -4])
        self.assertEqual(answers(calls), expected)
        expected = answers(list(EVERY_CALL))
        self.assertEqual(answers(STATE + CUT + read(100)), [10] + [0] * 10 + [1, -4, 1, 0])
        self.assertEqual(answers(EVERY_CALL), expected)

    def test_answers_are_not_what_is_kept(self):
        answered = answers(public(FIRST_OWN))
        answered.clear()
        self.assertEqual(answers(public(FIRST_OWN)), [33, 32] + FIRST_PUBLIC)


if __name__ == "__main__":
    unittest.main()
