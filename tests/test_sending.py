"""Promises 4 to 7: write, renew, end, take."""

import hashlib
import unittest

from tests.helper import (
    END, FIRST_END, FIRST_HELLO, FIRST_MESSAGE, FIRST_NEW_KEY, FIRST_SECOND_NEW_KEY, FIRST_X, FIRST_YZ, LONG_DATA,
    RENEW, SECOND_AGAIN, SECOND_BACK, SECOND_END, SECOND_LONG_SHA256, SECOND_NEW_KEY, SECOND_MESSAGE, broken_first,
    came, counted, open_first, open_second, rest_sizes, run, run_sealed, sealed_first, sealed_second, take, write)

ALL = take(65536)
HELD = 262144


class Streams(unittest.TestCase):
    def test_what_the_first_end_sends(self):
        answered = run(*sealed_first(2), write(list(b"hello")), write([]), ALL, write(list(b"x")), ALL,
                       write(list(b"yz")), ALL, RENEW, ALL, END, ALL)
        self.assertEqual(answered[3:], [
            [5], [0], counted(FIRST_HELLO), [1], counted(FIRST_X), [2], counted(FIRST_NEW_KEY + FIRST_YZ),
            [2], counted(FIRST_SECOND_NEW_KEY), [0], counted(FIRST_END)])

    def test_what_the_second_end_sends(self):
        answered = run(*sealed_second(), write(list(b"back")), RENEW, write(list(b"again")), ALL,
                       write(LONG_DATA), ALL, END, ALL)
        self.assertEqual(answered[3:7], [[4], [1], [5], counted(SECOND_BACK + SECOND_NEW_KEY + SECOND_AGAIN)])
        self.assertEqual(answered[7], [20000])
        self.assertEqual(hashlib.sha256(bytes(answered[8][1:])).hexdigest(), SECOND_LONG_SHA256)
        self.assertEqual(answered[9:], [[0], counted(SECOND_END)])

    def test_the_other_end_opens_all_of_it(self):
        sent = FIRST_HELLO + FIRST_X + FIRST_NEW_KEY + FIRST_YZ + FIRST_SECOND_NEW_KEY + FIRST_END
        self.assertEqual(run(*sealed_second(), came(sent))[3], [8])
        singly = [came([byte]) for byte in sent]
        self.assertEqual(run(*sealed_second(), *singly)[-1], [8])


class Write(unittest.TestCase):
    def sizes_of(self, size):
        data = [place % 256 for place in range(size)]
        answered = run_sealed(write(data), ALL, ALL)
        self.assertEqual(answered[0], [size])
        sent = answered[1][1:] + answered[2][1:]
        self.assertEqual(run(*sealed_second(), came(sent[:60000]), came(sent[60000:]))[-1], [size])
        return rest_sizes(sent)

    def test_records_of_16384(self):
        self.assertEqual(self.sizes_of(0), [])
        self.assertEqual(self.sizes_of(1), [18])
        self.assertEqual(self.sizes_of(16383), [16400])
        self.assertEqual(self.sizes_of(16384), [16401])
        self.assertEqual(self.sizes_of(16385), [16401, 18])
        self.assertEqual(self.sizes_of(25000), [16401, 8633])
        self.assertEqual(self.sizes_of(65536), [16401] * 4)

    def test_more_than_65536_bytes(self):
        self.assertEqual(run_sealed(write([0] * 65537), ALL), [[-1], [0]])

    def test_refusals_before_it_is_sealed(self):
        self.assertEqual(run(write([1])), [[-4]])
        self.assertEqual(run(open_first(), write([1]), write([]), take(100)),
                         [[0], [-4], [-4], counted(FIRST_MESSAGE)])
        self.assertEqual(run(open_second(), write([1]), take(100)), [[0], [-4], [0]])

    def test_refusal_behind_its_end(self):
        self.assertEqual(run_sealed(END, ALL, write([1]), write([]), ALL)[2:], [[-4], [-4], [0]])

    def test_it_goes_on_behind_the_others_end(self):
        self.assertEqual(run(*sealed_second(2), came(FIRST_HELLO + FIRST_X + FIRST_NEW_KEY + FIRST_YZ
                                                     + FIRST_SECOND_NEW_KEY + FIRST_END),
                             write(list(b"back")), ALL)[3:], [[8], [4], counted(SECOND_BACK)])

    def test_refusal_when_broken(self):
        self.assertEqual(run(*broken_first(), write([1]), write([]))[2:], [[-3], [-3]])

    def test_unfit_is_told_first(self):
        self.assertEqual(run(write([0] * 65537)), [[-1]])
        self.assertEqual(run(*broken_first(), write([0] * 65537))[2:], [[-1]])
        self.assertEqual(run_sealed(END, write([0] * 65537))[1:], [[-1]])

    def test_broken_is_told_before_the_end(self):
        self.assertEqual(run_sealed(END, came([0, 0]), write([1]), RENEW, END), [[0], [-3], [-3], [-3], [-3]])


class Renew(unittest.TestCase):
    def test_how_many_it_has_sent(self):
        answered = run_sealed(RENEW, RENEW, RENEW, ALL)
        self.assertEqual(answered[:3], [[1], [2], [3]])
        self.assertEqual(rest_sizes(answered[3][1:]), [17] * 3)

    def test_those_sent_by_every_count_too(self):
        self.assertEqual(run(*sealed_first(1), write([1]), write([2]), write([3]), RENEW)[-1], [3])

    def test_those_of_the_other_do_not_count(self):
        calls = [came(SECOND_BACK + SECOND_NEW_KEY + SECOND_AGAIN), RENEW]
        self.assertEqual(run_sealed(*calls), [[9], [1]])

    def test_each_key_differs(self):
        sent = run_sealed(RENEW, RENEW, ALL)[2][1:]
        self.assertNotEqual(sent[:19], sent[19:])
        self.assertEqual(run(*sealed_second(), came(sent))[3], [0])
        self.assertEqual(run(*sealed_second(), came(sent[19:]))[3], [-3])

    def test_refusals(self):
        self.assertEqual(run(RENEW), [[-4]])
        self.assertEqual(run(open_first(), RENEW, open_second(), RENEW), [[0], [-4], [0], [-4]])
        self.assertEqual(run_sealed(END, ALL, RENEW, ALL)[2:], [[-4], [0]])
        self.assertEqual(run(*broken_first(), RENEW)[2:], [[-3]])


class Every(unittest.TestCase):
    def sizes_of(self, every, *calls):
        return rest_sizes(run(*sealed_first(every), *calls, ALL)[-1][1:])

    def test_0_is_never(self):
        self.assertEqual(self.sizes_of(0, *[write([1])] * 20), [18] * 20)

    def test_1_is_before_all_but_the_first(self):
        self.assertEqual(self.sizes_of(1, *[write([1])] * 4), [18, 17, 18, 17, 18, 17, 18])

    def test_3(self):
        self.assertEqual(self.sizes_of(3, *[write([1])] * 7), [18, 18, 18, 17, 18, 18, 18, 17, 18])

    def test_within_one_write(self):
        sizes = self.sizes_of(1, write([1] * 32769))
        self.assertEqual(sizes, [16401, 17, 16401, 17, 18])

    def test_not_yet_sent_when_it_becomes_due(self):
        self.assertEqual(self.sizes_of(2, write([1]), write([1]), write([])), [18, 18])

    def test_before_the_end(self):
        self.assertEqual(self.sizes_of(2, write([1]), write([1]), END), [18, 18, 17, 17])
        self.assertEqual(self.sizes_of(2, write([1]), END), [18, 17])

    def test_renew_begins_the_count_again(self):
        self.assertEqual(self.sizes_of(2, write([1]), RENEW, write([1]), write([1]), write([1])),
                         [18, 17, 18, 18, 17, 18])

    def test_none_before_a_renewal(self):
        self.assertEqual(self.sizes_of(2, write([1]), write([1]), RENEW, write([1])), [18, 18, 17, 18])

    def test_the_other_end_opens_them(self):
        for every in (1, 2, 3, 1000000):
            sent = run(*sealed_first(every), *[write([1, 2])] * 9, END, ALL)[-1][1:]
            self.assertEqual(run(*sealed_second(), came(sent), came([0]), came([17]))[3:], [[18], [18], [-3]])


class End(unittest.TestCase):
    def test_its_record(self):
        answered = run_sealed(END, ALL)
        self.assertEqual(answered[0], [0])
        self.assertEqual(rest_sizes(answered[1][1:]), [17])
        self.assertEqual(run(*sealed_second(), came(answered[1][1:] + [0, 17]))[3], [-3])

    def test_it_is_sent_once(self):
        self.assertEqual(run_sealed(END, ALL, END, ALL)[2:], [[-4], [0]])

    def test_refusals(self):
        self.assertEqual(run(END), [[-4]])
        self.assertEqual(run(open_first(), END, open_second(), END), [[0], [-4], [0], [-4]])
        self.assertEqual(run(*broken_first(), END)[2:], [[-3]])

    def test_the_other_still_can_be_heard(self):
        self.assertEqual(run_sealed(END, came(SECOND_BACK)), [[0], [4]])


class TooMuch(unittest.TestCase):
    def fill(self, left):
        # Four writes of 65536 bytes are sixteen records of 16403 bytes.
        return [write([0] * 65536)] * 4 + [take(16 * 16403 - left)]

    def test_262144_bytes_are_not_too_many(self):
        answered = run_sealed(*self.fill(HELD), write([]), RENEW, write([]), RENEW, write([1]), END)
        self.assertEqual(answered[:4], [[65536]] * 4)
        self.assertEqual(answered[5:], [[0], [1], [-5], [-5], [-5], [0]])

    def test_one_more_is(self):
        answered = run_sealed(*self.fill(HELD + 1), write([]), RENEW, take(1), write([7]))
        self.assertEqual(answered[5:], [[-5], [-5], [1, answered[7][1]], [1]])

    def test_unfit_and_the_end_are_told_before(self):
        answered = run_sealed(*self.fill(HELD + 1), write([0] * 65537), END, write([1]), RENEW, came([0, 0]),
                              write([1]), RENEW)
        self.assertEqual(answered[5:], [[-1], [0], [-4], [-4], [-3], [-3], [-3]])


class Take(unittest.TestCase):
    def test_from_the_beginning_and_not_again(self):
        answered = run(open_first(), take(0), take(1), take(40), take(40), take(40))
        self.assertEqual(answered[1:], [
            [0], counted(FIRST_MESSAGE[:1]), counted(FIRST_MESSAGE[1:41]), counted(FIRST_MESSAGE[41:]), [0]])

    def test_most_is_0_to_65536(self):
        for most in (-2147483648, -1, 65537, 2147483647):
            self.assertEqual(run(open_first(), take(most), take(65536)), [[0], [-1], counted(FIRST_MESSAGE)])
            self.assertEqual(run(take(most)), [[-1]])

    def test_65536_at_once(self):
        answered = run_sealed(write([0] * 65536), take(65536), take(65536))
        self.assertEqual([answer[0] for answer in answered], [65536, 65536, 4 * 16403 - 65536])

    def test_nothing_before_it_is_opened(self):
        self.assertEqual(run(take(0), take(65536)), [[0], [0]])

    def test_what_was_to_be_sent_is_still_there_when_broken(self):
        answered = run(open_first(), came([0] * 48), take(20), take(100))
        self.assertEqual(answered[1:], [[-3], counted(FIRST_MESSAGE[:20]), counted(FIRST_MESSAGE[20:])])
        answered = run(open_second(), came(FIRST_MESSAGE), write(list(b"back")), came([0, 0]), take(100))
        self.assertEqual(answered[2:], [[4], [-3], counted(SECOND_MESSAGE + SECOND_BACK)])

    def test_messages_and_records_stand_one_behind_another(self):
        answered = run(open_first(2), came(SECOND_MESSAGE), write(list(b"hello")), write(list(b"x")), ALL)
        self.assertEqual(answered[-1], counted(FIRST_MESSAGE + FIRST_HELLO + FIRST_X))


if __name__ == "__main__":
    unittest.main()
