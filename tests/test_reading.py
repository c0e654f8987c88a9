"""Promises 9 to 11: read, cut, state."""

import unittest

from tests.helper import (
    CUT, END, FIRST_DATA, FIRST_HELLO, FIRST_MESSAGE, FIRST_OWN, FIRST_FLEETING, FIRST_STREAM, FIRST_X, RENEW,
    RIGHT_RECORDS, SECOND_BACK, SECOND_MESSAGE, SECOND_NEW_KEY, SECOND_STREAM, STATE, broken_first, came, counted,
    open_first, open_second, opening, read, run, run_sealed, sealed_first, sealed_second, take, write)


class Read(unittest.TestCase):
    def test_from_the_beginning_and_not_again(self):
        answered = run(*sealed_second(), came(FIRST_STREAM), read(0), read(1), read(4), read(2), read(100), read(100))
        self.assertEqual(answered[3:], [
            [8], [0], counted(b"h"), counted(b"ello"), counted(b"xy"), counted(b"z"), [0]])

    def test_what_comes_later_stands_behind(self):
        answered = run(*sealed_second(), came(FIRST_HELLO), read(3), came(FIRST_X), read(100))[3:]
        self.assertEqual(answered, [[5], counted(b"hel"), [3], counted(b"lox")])

    def test_records_that_are_not_whole(self):
        answered = run(*sealed_second(), came(FIRST_HELLO[:-1]), read(100), came(FIRST_HELLO[-1:]), read(100))[3:]
        self.assertEqual(answered, [[0], [0], [5], counted(b"hello")])

    def test_it_reads_what_the_other_wrote(self):
        self.assertEqual(run_sealed(write([1, 2, 3]), read(100), came(SECOND_STREAM), read(100)),
                         [[3], [0], [9], counted(b"backagain")])

    def test_most_is_0_to_65536(self):
        for most in (-2147483648, -1, 65537, 2147483647):
            self.assertEqual(run(*sealed_second(), came(FIRST_STREAM), read(most), STATE, read(65536))[4:],
                             [[-1], [2, 0, 8, 0, 0, 1, 0, 1, 0, 2], counted(FIRST_DATA)])
            self.assertEqual(run(read(most)), [[-1]])
            self.assertEqual(run(*broken_first(), read(most))[2:], [[-1]])

    def test_65536_at_once(self):
        data = [place % 253 for place in range(65536)]
        sent = [answer[1:] for answer in run_sealed(write(data), take(65536), take(65536), write([7]), take(100))
                if len(answer) > 1]
        answered = run(*sealed_second(), *[came(part) for part in sent], read(65536), read(65536))[-2:]
        self.assertEqual(answered, [counted(data), [1, 7]])

    def test_nothing_before_anything_came(self):
        self.assertEqual(run(read(0), read(65536)), [[0], [0]])
        self.assertEqual(run(open_first(), read(100), open_second(), read(100)), [[0], [0], [0], [0]])

    def test_it_goes_on_behind_both_ends(self):
        answered = run(*sealed_second(), END, came(FIRST_STREAM), read(5), CUT, read(100))[3:]
        self.assertEqual(answered, [[0], [8], counted(b"hello"), [1], counted(b"xyz")])

    def test_it_makes_room(self):
        answered = run(*sealed_second(), came(FIRST_STREAM), read(3), STATE, read(5), STATE)[3:]
        self.assertEqual([answer[2] for answer in (answered[2], answered[4])], [5, 0])


class Cut(unittest.TestCase):
    def test_not_opened(self):
        self.assertEqual(run(CUT, CUT), [[-4], [-4]])
        self.assertEqual(run(opening(2, 0, FIRST_OWN, FIRST_OWN, FIRST_FLEETING), CUT), [[-1], [-4]])

    def test_broken(self):
        self.assertEqual(run(*broken_first(), CUT)[2:], [[-3]])
        self.assertEqual(run(opening(1, 0, FIRST_OWN, [0] * 32, FIRST_FLEETING), CUT), [[-3], [-3]])

    def test_broken_behind_the_end(self):
        self.assertEqual(run(*sealed_second(), came(FIRST_STREAM), CUT, came([0, 0]), CUT)[3:],
                         [[8], [1], [-3], [-3]])

    def test_before_the_message(self):
        self.assertEqual(run(open_first(), CUT, came(SECOND_MESSAGE[:47]), CUT), [[0], [0], [0], [0]])
        self.assertEqual(run(open_second(), CUT), [[0], [0]])

    def test_only_the_whole_stream_has_ended(self):
        stream = FIRST_MESSAGE + FIRST_STREAM
        for place in range(len(stream) + 1):
            answered = run(open_second(), came(stream[:place]), CUT)
            self.assertEqual(answered[2], [1 if place == len(stream) else 0], place)

    def test_one_byte_behind_the_end(self):
        self.assertEqual(run(*sealed_second(), came(FIRST_STREAM + [0]), CUT)[3:], [[8], [1]])

    def test_ones_own_end_does_not_count(self):
        self.assertEqual(run_sealed(END, CUT, came(SECOND_STREAM), CUT), [[0], [0], [9], [0]])

    def test_it_changes_nothing(self):
        answered = run(*sealed_second(), came(FIRST_HELLO + FIRST_X[:4]), STATE, CUT, CUT, STATE, came(FIRST_X[4:]),
                       write([1]))[3:]
        self.assertEqual(answered[1:], [[2, 0, 5, 4, 0, 0, 0, 1, 0, 0], [0], [0], [2, 0, 5, 4, 0, 0, 0, 1, 0, 0],
                                        [6], [1]])


class State(unittest.TestCase):
    def check(self, calls, *expected):
        self.assertEqual(run(*calls, STATE)[-1], list(expected))

    def test_not_opened(self):
        self.check([], 0, 0, 0, 0, 0, 0, 0, 0, 0, 0)
        self.check([came([1]), write([1]), RENEW, END, CUT], 0, 0, 0, 0, 0, 0, 0, 0, 0, 0)
        self.check([opening(1, -1, FIRST_OWN, FIRST_OWN, FIRST_FLEETING)], 0, 0, 0, 0, 0, 0, 0, 0, 0, 0)

    def test_waits_for_the_message(self):
        self.check([open_first()], 1, 48, 0, 0, 0, 0, 0, 0, 0, 0)
        self.check([open_first(), take(8)], 1, 40, 0, 0, 0, 0, 0, 0, 0, 0)
        self.check([open_second()], 1, 0, 0, 0, 0, 0, 0, 0, 0, 0)

    def test_part_of_a_message(self):
        for size in (1, 32, 47):
            self.check([open_first(), came(SECOND_MESSAGE[:size])], 1, 48, 0, size, 0, 0, 0, 0, 0, 0)
            self.check([open_second(), came(FIRST_MESSAGE[:size])], 1, 0, 0, size, 0, 0, 0, 0, 0, 0)

    def test_sealed(self):
        self.check([open_first(), came(SECOND_MESSAGE)], 2, 48, 0, 0, 0, 0, 0, 0, 0, 0)
        self.check([open_second(), came(FIRST_MESSAGE)], 2, 48, 0, 0, 0, 0, 0, 0, 0, 0)
        self.check([open_second(), came(FIRST_MESSAGE + FIRST_HELLO[:1])], 2, 48, 0, 1, 0, 0, 0, 0, 0, 0)

    def test_what_it_sends(self):
        self.check([*sealed_first(), write([1, 2])], 2, 21, 0, 0, 0, 0, 1, 0, 0, 0)
        self.check([*sealed_first(), write([1, 2]), write([]), write([3])], 2, 41, 0, 0, 0, 0, 2, 0, 0, 0)
        self.check([*sealed_first(), write([1, 2]), RENEW], 2, 40, 0, 0, 0, 0, 0, 0, 1, 0)
        self.check([*sealed_first(), RENEW, RENEW, write([1]), take(40)], 2, 18, 0, 0, 0, 0, 1, 0, 2, 0)
        self.check([*sealed_first(), write([5]), END], 2, 39, 0, 0, 1, 0, 2, 0, 0, 0)
        self.check([*sealed_first(), END, END, write([5]), RENEW, take(19)], 2, 0, 0, 0, 1, 0, 1, 0, 0, 0)

    def test_new_keys_by_every(self):
        self.check([*sealed_first(2), write([1]), write([1])], 2, 40, 0, 0, 0, 0, 2, 0, 0, 0)
        self.check([*sealed_first(2), write([1]), write([1]), write([1])], 2, 79, 0, 0, 0, 0, 1, 0, 1, 0)
        self.check([*sealed_first(1), write([1]), END], 2, 58, 0, 0, 1, 0, 1, 0, 1, 0)

    def test_what_came(self):
        self.check([*sealed_second(), came(FIRST_HELLO)], 2, 0, 5, 0, 0, 0, 0, 1, 0, 0)
        self.check([*sealed_second(), came(FIRST_HELLO), read(2)], 2, 0, 3, 0, 0, 0, 0, 1, 0, 0)
        self.check([*sealed_second(), came(FIRST_STREAM)], 2, 0, 8, 0, 0, 1, 0, 1, 0, 2)
        self.check([*sealed_second(), came(FIRST_STREAM + [9])], 2, 0, 8, 1, 0, 1, 0, 1, 0, 2)
        self.check([*sealed_first(), came(SECOND_BACK + SECOND_NEW_KEY)], 2, 0, 4, 0, 0, 0, 0, 0, 0, 1)

    def test_part_of_a_record(self):
        for size in (1, 2, 3, 19):
            self.check([*sealed_second(), came(FIRST_HELLO + FIRST_X[:size])], 2, 0, 5, size, 0, 0, 0, 1, 0, 0)
        self.check([*sealed_second(), came([0x40, 0x11] + [1] * 16400)], 2, 0, 0, 16402, 0, 0, 0, 0, 0, 0)

    def test_both_ways_at_once(self):
        calls = [*sealed_first(), came(SECOND_STREAM), write([1]), write([2]), RENEW, write([3]), END]
        self.check(calls, 2, 98, 9, 0, 1, 0, 2, 1, 1, 1)

    def test_broken(self):
        self.check(broken_first(), 3, 48, 0, 0, 0, 0, 0, 0, 0, 0)
        self.check([opening(1, 0, FIRST_OWN, [0] * 32, FIRST_FLEETING)], 3, 0, 0, 0, 0, 0, 0, 0, 0, 0)

    def test_broken_counts_are_zeros_and_the_rest_is_kept(self):
        # Both ways have sealed with their second keys, and its own end was sent.
        calls = [*sealed_first(), came(SECOND_STREAM), write([1]), RENEW, write([3]), END, read(2), take(3)]
        self.check(calls, 2, 75, 7, 0, 1, 0, 2, 1, 1, 1)
        self.check([*calls, came([0, 0, 1, 2, 3])], 3, 75, 7, 0, 1, 0, 0, 0, 1, 1)
        self.check([*calls, came([0, 0, 1, 2, 3]), read(100), take(100)], 3, 0, 0, 0, 1, 0, 0, 0, 1, 1)

    def test_broken_behind_the_others_end(self):
        self.check([*sealed_second(), came(FIRST_STREAM + [0, 0])], 3, 0, 8, 0, 0, 1, 0, 0, 0, 2)

    def test_a_broken_second_end_has_nothing_to_send(self):
        self.check([open_second(), came([0] * 60)], 3, 0, 0, 0, 0, 0, 0, 0, 0, 0)

    def test_opened_again(self):
        calls = [*sealed_second(), came(FIRST_STREAM + [0]), write([1]), RENEW, END]
        self.check(calls, 2, 58, 8, 1, 1, 1, 1, 1, 1, 2)
        self.check([*calls, open_first()], 1, 48, 0, 0, 0, 0, 0, 0, 0, 0)
        self.check([*calls, came([0]), open_second()], 1, 0, 0, 0, 0, 0, 0, 0, 0, 0)

    def test_a_refused_call_changes_nothing(self):
        calls = [*sealed_second(), came(FIRST_HELLO + [0])]
        before = run(*calls, STATE)[-1]
        for refused in (opening(2, 0, FIRST_OWN, FIRST_OWN, FIRST_FLEETING), take(-1), read(65537), write([0] * 65537),
                        came([0] * 65537)):
            self.assertEqual(run(*calls, refused, STATE)[-2:], [[-1], before])

    def test_it_changes_nothing(self):
        answered = run(*sealed_second(), came(RIGHT_RECORDS[1, None]), STATE, STATE, RENEW, STATE)[4:]
        self.assertEqual(answered, [[2, 0, 0, 0, 0, 0, 0, 0, 0, 1]] * 2 + [[1], [2, 19, 0, 0, 0, 0, 0, 0, 1, 1]])


if __name__ == "__main__":
    unittest.main()
