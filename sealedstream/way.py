"""One way of a stream: its key, and the records that go by it."""

from sealedstream.cipher import mixed
from sealedstream.curve import KEY_SIZE
from sealedstream.little import bytes_of
from sealedstream.refusals import Broken
from sealedstream.seals import opened, sealed

DATA_KIND = 0
KEY_KIND = 1
END_KIND = 2
HEAD_SIZE = 2
MOST_DATA = 16384
BESIDES_DATA = 17
MOST_REST = 16401
NEXT_KEY = 3


def key_of_way(chain, number):
    return mixed(chain, bytes_of(number, KEY_SIZE))


def rest_size(head):
    size = head[0] * 256 + head[1]
    if size < BESIDES_DATA or size > MOST_REST:
        raise Broken()
    return size


def check_content(kind, data):
    if kind not in (DATA_KIND, KEY_KIND, END_KIND):
        raise Broken()
    # Data is never empty, and the other kinds always are.
    if (kind == DATA_KIND) != (len(data) > 0):
        raise Broken()


class Way:
    def __init__(self, key):
        self.key = key
        self.count = 0
        self.new_keys = 0

    def nonce(self):
        return [0, 0, 0, 0] + bytes_of(self.count, 8)

    def record(self, kind, data):
        size = len(data) + BESIDES_DATA
        head = [size // 256, size % 256]
        whole = head + sealed(self.key, self.nonce(), head, [kind] + data)
        self.step(kind)
        return whole

    def content(self, head, rest):
        inner = opened(self.key, self.nonce(), head, rest)
        if inner is None:
            raise Broken()
        check_content(inner[0], inner[1:])
        self.step(inner[0])
        return inner

    def step(self, kind):
        self.count = self.count + 1
        if kind == KEY_KIND:
            self.key = key_of_way(self.key, NEXT_KEY)
            self.count = 0
            self.new_keys = self.new_keys + 1

    def forget(self):
        self.key = []
        self.count = 0
