"""How two ends agree on a chain by one message each."""

from sealedstream.cipher import mixed
from sealedstream.curve import KEY_SIZE, is_zero, point, public_key
from sealedstream.refusals import Broken
from sealedstream.seals import sealed

BEGIN = "sealed streams, one end to other"
MESSAGE_SIZE = 48
NONCE_ZERO = (0, 0, 0, 0, 0, 0, 0, 0, 0, 0, 0, 0)


def first_chain():
    return [ord(sign) for sign in BEGIN]


def with_point(chain, key, u):
    shared = point(key, u)
    if is_zero(shared):
        raise Broken()
    return mixed(chain, shared)


def longer_chain(chain, publics, pairs):
    for public in publics:
        chain = mixed(chain, public)
    for pair in pairs:
        chain = with_point(chain, pair[0], pair[1])
    return chain


def proof(chain):
    return sealed(chain, list(NONCE_ZERO), [], [])


def check_proof(chain, message):
    if proof(chain) != message[KEY_SIZE:]:
        raise Broken()


class Greeting:
    def __init__(self, own, other, fleeting):
        self.own = own
        self.other = other
        self.fleeting = fleeting
        self.own_public = public_key(own)
        self.fleeting_public = public_key(fleeting)
        self.chain = first_chain()

    def message(self):
        return self.fleeting_public + proof(self.chain)

    def lead(self):
        publics = [self.own_public, self.other, self.fleeting_public]
        pairs = [(self.fleeting, self.other), (self.own, self.other)]
        self.chain = longer_chain(self.chain, publics, pairs)

    def meet_second(self, message):
        public = message[:KEY_SIZE]
        pairs = [(self.fleeting, public), (self.own, public)]
        self.chain = longer_chain(self.chain, [public], pairs)
        check_proof(self.chain, message)

    def meet_first(self, message):
        public = message[:KEY_SIZE]
        publics = [self.other, self.own_public, public]
        pairs = [(self.own, public), (self.own, self.other)]
        self.chain = longer_chain(self.chain, publics, pairs)
        check_proof(self.chain, message)
        pairs = [(self.fleeting, public), (self.fleeting, self.other)]
        self.chain = longer_chain(self.chain, [self.fleeting_public], pairs)
