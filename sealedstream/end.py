"""A line of calls on one end, and its answers."""

from sealedstream.curve import KEY_SIZE, is_zero, point, public_key
from sealedstream.refusals import IS_BROKEN, UNFIT
from sealedstream.seals import NONCE_SIZE, opened, sealed
from sealedstream.side import MOST_BYTES, End

# As many bytes as seal makes of MOST_BYTES.
MOST_SEALED = 65552


class Reader:
    def __init__(self, calls):
        self.calls = calls
        self.place = 0

    def has_more(self):
        return self.place < len(self.calls)

    def number(self):
        self.place = self.place + 1
        return self.calls[self.place - 1]

    def row(self):
        size = self.number()
        self.place = self.place + size
        return self.calls[self.place - size:self.place]


def answer_begin(end, reader):
    first = reader.number()
    every = reader.number()
    own = reader.row()
    other = reader.row()
    return [end.begin(first, every, own, other, reader.row())]


def answer_public(end, reader):
    key = reader.row()
    if len(key) != KEY_SIZE:
        return [UNFIT]
    return [KEY_SIZE] + public_key(key)


def answer_shared(end, reader):
    key = reader.row()
    u = reader.row()
    if len(key) != KEY_SIZE or len(u) != KEY_SIZE:
        return [UNFIT]
    secret = point(key, u)
    if is_zero(secret):
        return [IS_BROKEN]
    return [KEY_SIZE] + secret


def answer_write(end, reader):
    return [end.write(reader.row())]


def answer_renew(end, reader):
    return [end.renew()]


def answer_end(end, reader):
    return [end.finish()]


def answer_take(end, reader):
    return end.take(reader.number())


def answer_came(end, reader):
    return [end.came(reader.row())]


def answer_read(end, reader):
    return end.read(reader.number())


def answer_cut(end, reader):
    return [end.cut()]


def answer_state(end, reader):
    return end.state()


def may_be_sealed(key, nonce, others, most):
    if len(key) != KEY_SIZE or len(nonce) != NONCE_SIZE:
        return False
    return all([len(row) <= most for row in others])


def answer_seal(end, reader):
    key = reader.row()
    nonce = reader.row()
    along = reader.row()
    data = reader.row()
    if not may_be_sealed(key, nonce, [along, data], MOST_BYTES):
        return [UNFIT]
    hidden = sealed(key, nonce, along, data)
    return [len(hidden)] + hidden


def answer_unseal(end, reader):
    key = reader.row()
    nonce = reader.row()
    along = reader.row()
    hidden = reader.row()
    if not may_be_sealed(key, nonce, [along, hidden], MOST_SEALED):
        return [UNFIT]
    data = opened(key, nonce, along, hidden)
    if data is None:
        return [IS_BROKEN]
    return [len(data)] + data


ANSWERERS = {
    1: answer_begin,
    2: answer_public,
    3: answer_shared,
    4: answer_write,
    5: answer_renew,
    6: answer_end,
    7: answer_take,
    8: answer_came,
    9: answer_read,
    10: answer_cut,
    11: answer_state,
    12: answer_seal,
    13: answer_unseal,
}


def answers(calls):
    end = End()
    reader = Reader(calls)
    answered = []
    while reader.has_more():
        answerer = ANSWERERS[reader.number()]
        answer = answerer(end, reader)
        answered.append(len(answer))
        answered.extend(answer)
    return answered
