"""Promise 1: open, and the messages of both ends."""

import unittest

from tests.helper import (
    END, FIRST_FLEETING, FIRST_MESSAGE, FIRST_OWN, FIRST_PUBLIC, RENEW, SECOND_FLEETING, SECOND_MESSAGE, SECOND_OWN,
    SECOND_PUBLIC, SMALL_POINTS, broken_first, came, changed, counted, open_first, open_second, opening, run,
    sealed_first, take, write)


class Messages(unittest.TestCase):
    def test_first_ends_message_is_to_be_sent(self):
        self.assertEqual(run(open_first(), take(65536)), [[0], counted(FIRST_MESSAGE)])

    def test_second_end_sends_nothing_at_first(self):
        self.assertEqual(run(open_second(), take(65536)), [[0], [0]])

    def test_second_end_answers_the_first(self):
        self.assertEqual(
            run(open_second(), came(FIRST_MESSAGE), take(100)), [[0], [0], counted(SECOND_MESSAGE)])

    def test_message_in_single_bytes(self):
        calls = [came([byte]) for byte in FIRST_MESSAGE]
        answered = run(open_second(), *calls[:-1], take(100), write([1]), calls[-1], take(100), write([1]))
        self.assertEqual(answered, [[0]] + [[0]] * 47 + [[0], [-4], [0], counted(SECOND_MESSAGE), [1]])

    def test_first_end_takes_the_seconds_message(self):
        self.assertEqual(run(open_first(), came(SECOND_MESSAGE), write([1])), [[0], [0], [1]])

    def test_any_change_in_a_message_breaks(self):
        for place in (0, 31, 32, 47):
            answered = run(open_second(), came(changed(FIRST_MESSAGE, place)), take(100), write([1]))
            self.assertEqual(answered, [[0], [-3], [0], [-3]])
            answered = run(open_first(), came(changed(SECOND_MESSAGE, place)), write([1]))
            self.assertEqual(answered, [[0], [-3], [-3]])

    def test_highest_bit_of_a_messages_point_is_not_lost(self):
        # The point is the same, but the chain goes on with the bytes as they came.
        self.assertEqual(run(open_second(), came(FIRST_MESSAGE[:31] + [FIRST_MESSAGE[31] ^ 128] + FIRST_MESSAGE[32:])),
                         [[0], [-3]])

    def test_another_key_breaks(self):
        stranger = opening(0, 0, SECOND_OWN, SECOND_PUBLIC, SECOND_FLEETING)
        self.assertEqual(run(stranger, came(FIRST_MESSAGE)), [[0], [-3]])

    def test_ones_own_message_breaks(self):
        self.assertEqual(run(open_first(), came(FIRST_MESSAGE)), [[0], [-3]])


class Points(unittest.TestCase):
    def test_first_end_is_broken_at_once_by_a_point_of_zeros(self):
        for point in SMALL_POINTS:
            calls = [opening(1, 0, FIRST_OWN, point, FIRST_FLEETING), take(100), write([]), RENEW, END]
            self.assertEqual(run(*calls), [[-3], [0], [-3], [-3], [-3]])

    def test_second_end_is_broken_when_the_message_comes(self):
        for point in SMALL_POINTS:
            calls = [opening(0, 0, SECOND_OWN, point, SECOND_FLEETING), write([]), came(FIRST_MESSAGE), write([])]
            self.assertEqual(run(*calls), [[0], [-4], [-3], [-3]])

    def test_fleeting_point_of_zeros_breaks(self):
        for point in SMALL_POINTS:
            self.assertEqual(run(open_second(), came(point + [0] * 16)), [[0], [-3]])
            self.assertEqual(run(open_first(), came(point + [0] * 16)), [[0], [-3]])


class Refusals(unittest.TestCase):
    def check(self, first, every, expected):
        other = SECOND_PUBLIC if first == 1 else FIRST_PUBLIC
        self.assertEqual(run(opening(first, every, FIRST_OWN, other, FIRST_FLEETING)), [[expected]])

    def test_first_is_0_or_1(self):
        for first in (-2147483648, -1, 2, 2147483647):
            self.check(first, 0, -1)
        self.check(0, 0, 0)
        self.check(1, 0, 0)

    def test_every_is_0_to_1000000(self):
        for every in (-2147483648, -1, 1000001, 2147483647):
            self.check(0, every, -1)
            self.check(1, every, -1)
        for every in (0, 1, 1000000):
            self.check(0, every, 0)
            self.check(1, every, 0)

    def test_keys_have_32_bytes(self):
        for size in (0, 31, 33, 40):
            short = [1] * size
            self.assertEqual(run(opening(1, 0, short, SECOND_PUBLIC, FIRST_FLEETING)), [[-1]])
            self.assertEqual(run(opening(1, 0, FIRST_OWN, short, FIRST_FLEETING)), [[-1]])
            self.assertEqual(run(opening(1, 0, FIRST_OWN, SECOND_PUBLIC, short)), [[-1]])
            self.assertEqual(run(opening(0, 0, SECOND_OWN, FIRST_PUBLIC, short)), [[-1]])

    def test_unfit_is_told_before_broken(self):
        self.assertEqual(run(opening(1, -1, FIRST_OWN, [0] * 32, FIRST_FLEETING)), [[-1]])

    def test_a_refused_opening_leaves_the_end_not_opened(self):
        refused = opening(2, 0, FIRST_OWN, SECOND_PUBLIC, FIRST_FLEETING)
        self.assertEqual(run(refused, take(100), came([1])), [[-1], [0], [-4]])

    def test_a_refused_opening_changes_nothing(self):
        refused = opening(2, 0, FIRST_OWN, SECOND_PUBLIC, FIRST_FLEETING)
        self.assertEqual(run(open_first(), refused, take(100), came(SECOND_MESSAGE), refused, write([1])),
                         [[0], [-1], counted(FIRST_MESSAGE), [0], [-1], [1]])


class OpenedAgain(unittest.TestCase):
    def test_it_is_a_new_end(self):
        answered = run(*sealed_first(), write([1]), END, open_first(), write([1]), take(100))
        self.assertEqual(answered[3:], [[1], [0], [0], [-4], counted(FIRST_MESSAGE)])

    def test_nothing_of_the_old_end_is_left(self):
        # Records still to be sent, a byte that came, new keys made and the end sent belong to the old end.
        answered = run(*sealed_first(), write([1]), RENEW, came([0]), END, open_second(), take(100),
                       came(FIRST_MESSAGE), RENEW, take(48), END)
        self.assertEqual(answered[7:], [[0], [0], [0], [1], counted(SECOND_MESSAGE), [0]])

    def test_broken_while_opening_again(self):
        answered = run(open_first(), opening(1, 0, FIRST_OWN, [0] * 32, FIRST_FLEETING), take(100), write([1]))
        self.assertEqual(answered, [[0], [-3], [0], [-3]])

    def test_it_is_not_broken_any_more(self):
        self.assertEqual(run(*broken_first(), open_second(), came(FIRST_MESSAGE), write([1]))[2:], [[0], [0], [1]])


if __name__ == "__main__":
    unittest.main()
