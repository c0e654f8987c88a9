"""Promise 8: came, and what of all that may come breaks an end."""

import hashlib
import unittest

from sealedstream.side import End
from tests.helper import (
    CUT, FIRST_DATA, FIRST_END, FIRST_HELLO, FIRST_KEY, FIRST_MESSAGE, FIRST_NEW_KEY, FIRST_PUBLIC, FIRST_RECORDS,
    FIRST_STREAM, FIRST_X, FULL_DATA, FULL_RECORD_SHA256, RIGHT_RECORDS, SECOND_BACK, SECOND_FLEETING, SECOND_MESSAGE,
    SECOND_OWN, STATE, WRONG_RECORDS, broken_first, came, changed, come, counted, open_first, open_second, read, run,
    run_sealed, seal, sealed_second, take, write)

NONCE_ZERO = [0] * 12
BROKEN_WITH_NOTHING = [3, 0, 0, 0, 0, 0, 0, 0, 0, 0]


def first_record_of_size(size):
    """A record of data, rightly sealed as the first one of the first end, whose rest has this size."""
    head = [size // 256, size % 256]
    return head + run(seal(FIRST_KEY, NONCE_ZERO, head, [0] + [7] * (size - 17)))[0][1:]


class Pieces(unittest.TestCase):
    def test_records_right_behind_the_message(self):
        answered = run(open_second(), came(FIRST_MESSAGE + FIRST_STREAM), write([1]))
        self.assertEqual(answered, [[0], [8], [1]])

    def test_how_many_bytes_can_be_read(self):
        self.assertEqual(come(*FIRST_RECORDS), [5, 6, 6, 8, 8, 8, 1])

    def test_those_that_were_read_do_not_count(self):
        answered = run(*sealed_second(), came(FIRST_HELLO), read(2), came([]), read(3), came(FIRST_X), came([]))[3:]
        self.assertEqual(answered, [[5], counted(b"he"), [3], counted(b"llo"), [1], [1]])

    def test_single_bytes(self):
        expected = []
        readable = 0
        for record, size in zip(FIRST_RECORDS, (5, 1, 0, 2, 0, 0)):
            expected += [readable] * (len(record) - 1)
            readable += size
            expected.append(readable)
        self.assertEqual(come(*[[byte] for byte in FIRST_STREAM]), expected + [1])

    def test_a_cut_at_every_place(self):
        for place in range(len(FIRST_STREAM) + 1):
            self.assertEqual(come(FIRST_STREAM[:place], FIRST_STREAM[place:])[1:], [8, 1])

    def test_part_of_a_record_waits(self):
        self.assertEqual(come(FIRST_HELLO[:1], FIRST_HELLO[1:23], FIRST_HELLO[23:] + FIRST_X[:5]), [0, 0, 5, 1])

    def test_part_of_a_message_waits(self):
        # Its proof is wrong, but that isn't known before it's whole.
        self.assertEqual(run(open_second(), came([0] * 47), came([]), came([0]), STATE),
                         [[0], [0], [0], [-3], BROKEN_WITH_NOTHING])

    def test_nothing_came(self):
        self.assertEqual(run(open_first(), came([]), STATE)[1:], [[0], [1, 48] + [0] * 8])
        self.assertEqual(come([], []), [0, 0, 1])


class Breaking(unittest.TestCase):
    def test_a_changed_proof(self):
        for place in range(32, 48):
            self.assertEqual(run(open_second(), came(changed(FIRST_MESSAGE, place, 128)), STATE)[1:],
                             [[-3], BROKEN_WITH_NOTHING])
            self.assertEqual(run(open_first(), came(changed(SECOND_MESSAGE, place, 128)), STATE)[1:],
                             [[-3], [3, 48] + [0] * 8])

    def test_a_changed_byte_in_a_record(self):
        # Places 2 and 3 to 7 are the kind and the data, the last 16 are the tag.
        for place in range(2, len(FIRST_HELLO)):
            self.assertEqual(come(changed(FIRST_HELLO, place)), [-3, -3])

    def test_a_changed_length(self):
        # One byte fewer, one more, and far more than there may be.
        self.assertEqual(come([0, 21] + FIRST_HELLO[2:]), [-3, -3])
        self.assertEqual(come([0, 23] + FIRST_HELLO[2:], [0]), [0, -3, -3])
        self.assertEqual(come([128, 22] + FIRST_HELLO[2:]), [-3, -3])

    def test_another_order(self):
        self.assertEqual(come(FIRST_X), [-3, -3])
        self.assertEqual(come(FIRST_HELLO, FIRST_HELLO), [5, -3, -3])
        self.assertEqual(come(FIRST_HELLO + FIRST_NEW_KEY), [-3, -3])
        self.assertEqual(come(FIRST_HELLO + FIRST_X + FIRST_END), [-3, -3])

    def test_records_of_the_other_way(self):
        self.assertEqual(come(SECOND_BACK), [-3, -3])
        self.assertEqual(run_sealed(came(FIRST_HELLO)), [[-3]])

    def test_two_bytes_tell_a_length_that_may_not_be(self):
        for head in ([0, 0], [0, 16], [0x40, 0x12], [255, 255]):
            self.assertEqual(come(head[:1], head[1:]), [0, -3, -3])
        for head in ([0, 17], [0x40, 0x11]):
            self.assertEqual(come(head), [0, 1])

    def test_rest_of_17_to_16401(self):
        self.assertEqual(come(first_record_of_size(18)), [1, 1])
        self.assertEqual(come(first_record_of_size(16401)), [16384, 1])
        self.assertEqual(come(first_record_of_size(16402)), [-3, -3])
        self.assertEqual(come(RIGHT_RECORDS[2, None]), [0, 1])
        no_kind = [0, 16] + run(seal(FIRST_KEY, NONCE_ZERO, [0, 16], []))[0][1:]
        self.assertEqual(come(no_kind), [-3, -3])

    def test_the_longest_record(self):
        record = run_sealed(write(FULL_DATA), take(65536))[1][1:]
        self.assertEqual(hashlib.sha256(bytes(record)).hexdigest(), FULL_RECORD_SHA256)
        answered = run(*sealed_second(), came(record[:16402]), came(record[16402:]), read(65536))[3:]
        self.assertEqual(answered, [[0], [16384], counted(FULL_DATA)])

    def test_kinds_and_their_data(self):
        for content, record in RIGHT_RECORDS.items():
            self.assertEqual(come(record), [0 if content[1] is None else 1, 1], content)
        for content, record in WRONG_RECORDS.items():
            self.assertEqual(come(record), [-3, -3], content)
            self.assertEqual(run(*sealed_second(), came(record), STATE)[4], BROKEN_WITH_NOTHING, content)

    def test_one_byte_behind_the_end_waits(self):
        self.assertEqual(come(FIRST_STREAM, [], [0]), [8, 8, 8, 1])
        self.assertEqual(come(FIRST_STREAM + [0]), [8, 1])

    def test_two_bytes_behind_the_end(self):
        self.assertEqual(come(FIRST_STREAM, [0], [17]), [8, 8, -3, -3])
        self.assertEqual(come(FIRST_STREAM, [0, 17]), [8, -3, -3])
        self.assertEqual(come(FIRST_STREAM + [0, 17]), [-3, -3])

    def test_every_change_of_a_stream_is_noticed(self):
        # Whatever is changed, what can be read is how the data begins, and the end never comes.
        for place in range(len(FIRST_STREAM)):
            answered = run(*sealed_second(), came(changed(FIRST_STREAM, place, 4)), read(100), CUT, STATE)[3:]
            self.assertEqual(answered[1][1:], FIRST_DATA[:answered[1][0]], place)
            self.assertEqual(answered[2], answered[0] if answered[0] == [-3] else [0], place)
            self.assertEqual(answered[3][5], 0, place)


class Broken(unittest.TestCase):
    def test_it_stays_so(self):
        self.assertEqual(come([0, 0], FIRST_STREAM, []), [-3, -3, -3, -3])

    def test_what_was_opened_before_can_be_read(self):
        # Both in an earlier call, and in the very call that breaks it.
        answered = run(*sealed_second(), came(FIRST_HELLO), came(FIRST_X + [0, 0, 1]), read(3), read(100), read(1))[3:]
        self.assertEqual(answered, [[5], [-3], counted(b"hel"), counted(b"lox"), [0]])

    def test_what_was_to_be_sent_is_still_there(self):
        answered = run(open_second(), came(FIRST_MESSAGE + FIRST_HELLO + [0, 0, 1]), take(30), take(100), read(100))
        self.assertEqual(answered[1:], [
            [-3], counted(SECOND_MESSAGE[:30]), counted(SECOND_MESSAGE[30:]), counted(b"hello")])

    def test_keys_are_forgotten(self):
        # By a wrong message, and by a wrong record when it's sealed.
        for wrong in ([0] * 48, FIRST_MESSAGE + FIRST_HELLO + [0, 0, 1]):
            end = End()
            end.begin(0, 0, SECOND_OWN, FIRST_PUBLIC, SECOND_FLEETING)
            self.assertEqual(end.came(wrong), -3)
            self.assertEqual((end.sending.key, end.receiving.key, end.greeting, end.arrived), ([], [], None, []))


class Refusals(unittest.TestCase):
    def test_not_opened(self):
        self.assertEqual(run(came([1]), came([]), STATE), [[-4], [-4], [0] * 10])

    def test_65536_bytes_at_the_most(self):
        self.assertEqual(run(came([0] * 65536), came([0] * 65537)), [[-4], [-1]])
        self.assertEqual(run(open_first(), came([0] * 65537), STATE, came([0] * 65536), came([]), came([0] * 65537)),
                         [[0], [-1], [1, 48] + [0] * 8, [-3], [-3], [-1]])

    def test_more_than_262144_bytes_can_be_read(self):
        answered = run(open_first(), came(SECOND_MESSAGE), take(48),
                       *[write([0] * 65536), take(65536), take(65536)] * 4, write([1]), take(100))
        parts = [answer[1:] for answer in answered[3:] if len(answer) > 1]
        calls = [came(part) for part in parts]
        answered = run(*sealed_second(), *calls, came([]), came([0, 0]), came([0] * 65537), STATE, read(1), came([]),
                       came([0, 0]), came([]))
        self.assertEqual(answered[10:17], [[262144], [262145], [-5], [-5], [-1],
                                           [2, 0, 262145, 0, 0, 0, 0, 17, 0, 0], [1, 0]])
        self.assertEqual(answered[17:], [[262144], [-3], [-3]])

    def test_broken(self):
        self.assertEqual(run(*broken_first(), came([]), came(SECOND_MESSAGE))[2:], [[-3], [-3]])

    def test_broken_is_told_before_too_much(self):
        end = End()
        end.begin(1, 0, SECOND_OWN, FIRST_PUBLIC, SECOND_FLEETING)
        end.readable = [0] * 262145
        self.assertEqual(end.came([]), -5)
        end.give_up()
        self.assertEqual(end.came([]), -3)


if __name__ == "__main__":
    unittest.main()
