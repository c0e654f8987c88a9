"""Two ends that talk to one another, over a stream that comes in pieces of any length."""

import unittest

from sealedstream.end import answers
from tests.helper import (
    CUT, END, RENEW, STATE, came, counted, open_first, open_second, read, run, split_answers, take, write)

ALL = take(65536)
PIECES = ((1,), (2, 3), (5, 1, 19), (47,), (48,), (49, 17), (1000, 1))


class Talker:
    """One end that is asked a few calls at a time: its line is gone through anew each time, as nothing is kept."""

    def __init__(self, opening):
        self.line = list(opening)

    def ask(self, *calls):
        for call in calls:
            self.line += call
        return split_answers(answers(self.line))[-len(calls):]


def in_pieces(sent, sizes):
    pieces = []
    while sent:
        size = sizes[len(pieces) % len(sizes)]
        pieces.append(sent[:size])
        sent = sent[size:]
    return pieces


class Talk:
    def __init__(self, sizes, first_every=0, second_every=0):
        self.first = Talker(open_first(first_every))
        self.second = Talker(open_second(second_every))
        self.sizes = sizes

    def carry(self, source, target):
        """What source has to send comes to target in pieces; what target answers to the last of these."""
        pieces = in_pieces(source.ask(ALL)[0][1:], self.sizes)
        return target.ask(*[came(piece) for piece in pieces], came([]))[-1]

    def to_second(self):
        return self.carry(self.first, self.second)

    def to_first(self):
        return self.carry(self.second, self.first)

    def greet(self):
        return self.to_second() + self.to_first()


class Talking(unittest.TestCase):
    def test_a_talk_in_pieces(self):
        for sizes in PIECES:
            talk = Talk(sizes, first_every=2, second_every=1)
            self.assertEqual(talk.greet(), [0, 0])
            talk.first.ask(write(list(b"how do you")), write(list(b" do")), RENEW, write(list(b"?")))
            talk.second.ask(write(list(b"well")), write(list(b", ")), write(list(b"and you?")), END)
            self.assertEqual((talk.to_second(), talk.to_first()), ([14], [14]))
            self.assertEqual(talk.first.ask(CUT, read(100)), [[1], counted(b"well, and you?")])
            self.assertEqual(talk.second.ask(CUT, read(100)), [[0], counted(b"how do you do?")])
            talk.first.ask(write(list(b"well")), END)
            self.assertEqual(talk.to_second(), [4])
            self.assertEqual(talk.second.ask(read(100), CUT, STATE),
                             [counted(b"well"), [1], [2, 0, 0, 0, 1, 1, 1, 1, 3, 2]])
            self.assertEqual(talk.first.ask(STATE), [[2, 0, 0, 0, 1, 1, 1, 1, 2, 3]])

    def test_long_data_in_pieces(self):
        data = [place * 11 % 256 for place in range(20000)]
        talk = Talk((7000, 1, 16384), first_every=1)
        talk.greet()
        talk.first.ask(write(data), END)
        self.assertEqual(talk.to_second(), [20000])
        self.assertEqual(talk.second.ask(read(16384), read(65536), CUT),
                         [counted(data[:16384]), counted(data[16384:]), [1]])

    def test_records_right_behind_the_second_message(self):
        talk = Talk((13,))
        talk.to_second()
        talk.second.ask(write(list(b"soon")), RENEW, END)
        self.assertEqual(talk.to_first(), [4])
        self.assertEqual(talk.first.ask(read(100), CUT, STATE),
                         [counted(b"soon"), [1], [2, 0, 0, 0, 0, 1, 0, 1, 0, 1]])

    def test_many_new_keys(self):
        talk = Talk((40,))
        talk.greet()
        for turn in range(1, 12):
            self.assertEqual(talk.first.ask(RENEW, write([turn]))[0], [turn])
        self.assertEqual(talk.to_second(), [11])
        self.assertEqual(talk.second.ask(read(100), STATE),
                         [counted(range(1, 12)), [2, 0, 0, 0, 0, 0, 0, 1, 0, 11]])

    def test_a_thief_between_them_is_noticed(self):
        # He keeps a record back, and lets the next one come in its place.
        talk = Talk((1000,))
        talk.greet()
        talk.first.ask(write(list(b"one")), ALL, write(list(b"two")))
        self.assertEqual(talk.second.ask(CUT), [[0]])
        pieces = in_pieces(talk.first.ask(ALL)[0][1:], talk.sizes)
        self.assertEqual(talk.second.ask(came(pieces[0]), read(100), CUT), [[-3], [0], [-3]])

    def test_two_first_ends_do_not_agree(self):
        first = run(open_first(), ALL)[1][1:]
        self.assertEqual(run(open_first(), came(first), STATE)[1:], [[-3], [3, 48] + [0] * 8])

    def test_two_second_ends_wait_for_ever(self):
        self.assertEqual(run(open_second(), ALL, STATE), [[0], [0], [1] + [0] * 9])


if __name__ == "__main__":
    unittest.main()
