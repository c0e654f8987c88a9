"""A line of calls on one end, and its answers."""

from sealedstream.curve import KEY_SIZE, is_zero, point, public_key
from sealedstream.refusals import IS_BROKEN, UNFIT
from sealedstream.side import End


class Reader:
    def __init__(self, calls):
        self.calls = calls
        self.place = 0

    def has_more(self):
        return self.place < len(self.calls)

    def number(self):
        self.place = self.place + 1
        return self.calls[self.place - 1]

    def row(self):
        size = self.number()
        self.place = self.place + size
        return self.calls[self.place - size:self.place]


def answer_begin(end, reader):
    first = reader.number()
    every = reader.number()
    own = reader.row()
    other = reader.row()
    return [end.begin(first, every, own, other, reader.row())]


def answer_public(end, reader):
    key = reader.row()
    if len(key) != KEY_SIZE:
        return [UNFIT]
    return [KEY_SIZE] + public_key(key)


def answer_shared(end, reader):
    key = reader.row()
    u = reader.row()
    if len(key) != KEY_SIZE or len(u) != KEY_SIZE:
        return [UNFIT]
    secret = point(key, u)
    if is_zero(secret):
        return [IS_BROKEN]
    return [KEY_SIZE] + secret


def answer_write(end, reader):
    return [end.write(reader.row())]


def answer_renew(end, reader):
    return [end.renew()]


def answer_end(end, reader):
    return [end.finish()]


def answer_take(end, reader):
    return end.take(reader.number())


def answer_came(end, reader):
    return [end.came(reader.row())]


ANSWERERS = {
    1: answer_begin,
    2: answer_public,
    3: answer_shared,
    4: answer_write,
    5: answer_renew,
    6: answer_end,
    7: answer_take,
    8: answer_came,
}


def answers(calls):
    end = End()
    reader = Reader(calls)
    answered = []
    while reader.has_more():
        answerer = ANSWERERS[reader.number()]
        answer = answerer(end, reader)
        answered.append(len(answer))
        answered.extend(answer)
    return answered
