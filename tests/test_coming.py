"""What the document says of records that come, as far as sending depends on it: what breaks an end."""

import unittest

from sealedstream.side import End
from tests.helper import (
    FIRST_END, FIRST_FLEETING, FIRST_HELLO, FIRST_MESSAGE, FIRST_NEW_KEY, FIRST_OWN, FIRST_PUBLIC,
    FIRST_SECOND_NEW_KEY, FIRST_X, FIRST_YZ, SECOND_FLEETING, SECOND_MESSAGE, SECOND_OWN, SECOND_PUBLIC, came, open_first, open_second, run, sealed_second, take, write)

WHOLE = FIRST_HELLO + FIRST_X + FIRST_NEW_KEY + FIRST_YZ + FIRST_SECOND_NEW_KEY + FIRST_END


def come(*rows):
    """The answers of a sealed second end to these bytes, and to a write behind them."""
    return [answer[0] for answer in run(*sealed_second(), *[came(row) for row in rows], write([1]))[3:]]


def first_record(kind, data):
    """A record such as no call makes, rightly sealed, as the first one of the first end."""
    end = End()
    end.begin(1, 0, FIRST_OWN, SECOND_PUBLIC, FIRST_FLEETING)
    end.came(SECOND_MESSAGE)
    return end.sending.record(kind, data)


class Records(unittest.TestCase):
    def test_records_right_behind_the_message(self):
        self.assertEqual(run(open_second(), came(FIRST_MESSAGE + WHOLE), write([1])), [[0], [8], [1]])

    def test_part_of_a_record_waits(self):
        self.assertEqual(come(FIRST_HELLO[:1], FIRST_HELLO[1:23], FIRST_HELLO[23:] + FIRST_X[:5]), [0, 0, 5, 1])

    def test_any_change_breaks(self):
        for place in (1, 2, 7, 8, 23):
            changed = list(FIRST_HELLO)
            changed[place] ^= 1
            self.assertEqual(come(changed + FIRST_X), [-3, -3])

    def test_another_order_breaks(self):
        self.assertEqual(come(FIRST_X), [-3, -3])
        self.assertEqual(come(FIRST_HELLO, FIRST_HELLO), [5, -3, -3])
        self.assertEqual(come(FIRST_HELLO + FIRST_NEW_KEY), [-3, -3])

    def test_rest_of_17_to_16401(self):
        # The two bytes alone tell that such a record can't be.
        for head in ([0, 0], [0, 16], [0x40, 0x12], [255, 255]):
            self.assertEqual(come(head[:1], head[1:]), [0, -3, -3])
        for head in ([0, 17], [0x40, 0x11]):
            self.assertEqual(come(head), [0, 1])

    def test_kinds_and_their_data(self):
        self.assertEqual(come(first_record(0, [5])), [1, 1])
        self.assertEqual(come(first_record(1, [])), [0, 1])
        self.assertEqual(come(first_record(2, [])), [0, 1])
        for kind, data in ((0, []), (1, [5]), (2, [5]), (3, []), (3, [5]), (255, [])):
            self.assertEqual(come(first_record(kind, data)), [-3, -3])

    def test_what_comes_behind_the_end(self):
        self.assertEqual(come(WHOLE, [], [0], [17]), [8, 8, 8, -3, -3])

    def test_broken_stays_so(self):
        self.assertEqual(come([0, 0], WHOLE, []), [-3, -3, -3, -3])

    def test_broken_forgets_keys_and_keeps_what_was_opened(self):
        end = End()
        end.begin(0, 0, SECOND_OWN, FIRST_PUBLIC, SECOND_FLEETING)
        self.assertEqual(end.came(FIRST_MESSAGE + FIRST_HELLO + [0, 0, 1]), -3)
        self.assertEqual(end.readable, list(b"hello"))
        self.assertEqual(end.outgoing, SECOND_MESSAGE)
        self.assertEqual((end.sending.key, end.receiving.key, end.greeting, end.arrived), ([], [], None, []))

    def test_refusals(self):
        self.assertEqual(run(came([1])), [[-4]])
        self.assertEqual(run(came([0] * 65537)), [[-1]])
        self.assertEqual(run(open_first(), came([0] * 65536), came([]), came([0] * 65537)), [[0], [-3], [-3], [-1]])

    def test_more_than_262144_bytes_to_be_read(self):
        sender = [open_first(), came(SECOND_MESSAGE), take(48)]
        answered = run(*sender, *[write([0] * 65536), take(65536), take(65536)] * 4, write([1]), take(100))
        parts = [answer[1:] for answer in answered[3:] if len(answer) > 1]
        answered = run(*sealed_second(), *[came(part) for part in parts], came([]))
        self.assertEqual(answered[-3:], [[262144], [262145], [-5]])


if __name__ == "__main__":
    unittest.main()
