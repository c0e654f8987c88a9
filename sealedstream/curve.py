"""X25519: points, public keys."""

from sealedstream.little import bytes_of, number_of

P = 0x7FFFFFFFFFFFFFFFFFFFFFFFFFFFFFFFFFFFFFFFFFFFFFFFFFFFFFFFFFFFFFED
LOW_255_BITS = 0x7FFFFFFFFFFFFFFFFFFFFFFFFFFFFFFFFFFFFFFFFFFFFFFFFFFFFFFFFFFFFFFF
KEPT_OF_KEY = 0x3FFFFFFFFFFFFFFFFFFFFFFFFFFFFFFFFFFFFFFFFFFFFFFFFFFFFFFFFFFFFFF8
BIT_254 = 0x4000000000000000000000000000000000000000000000000000000000000000
KEY_SIZE = 32


def scalar_of(key):
    return (number_of(key) & KEPT_OF_KEY) | BIT_254


def inverse(number):
    # Python's own modular power lies outside the language kept to here.
    result = 1
    square = number
    exponent = P - 2
    while exponent > 0:
        if exponent & 1:
            result = result * square % P
        square = square * square % P
        exponent = exponent >> 1
    return result


def ladder_step(x, pair, other):
    # A pair is (x, z) of one point; the answer is both pairs of the next step.
    a = pair[0] + pair[1]
    b = pair[0] - pair[1]
    aa = a * a % P
    bb = b * b % P
    e = aa - bb
    d = (other[0] - other[1]) * a
    c = (other[0] + other[1]) * b
    doubled = (aa * bb % P, e * (aa + 121665 * e) % P)
    added = ((d + c) * (d + c) % P, x * ((d - c) * (d - c) % P) % P)
    return (doubled, added)


def point(key, u):
    scalar = scalar_of(key)
    x = (number_of(u) & LOW_255_BITS) % P
    pairs = ((1, 0), (x, 1))
    for place in range(254, -1, -1):
        bit = (scalar >> place) & 1
        stepped = ladder_step(x, pairs[bit], pairs[1 - bit])
        pairs = (stepped[bit], stepped[1 - bit])
    return bytes_of(pairs[0][0] * inverse(pairs[0][1]) % P, KEY_SIZE)


def public_key(key):
    return point(key, bytes_of(9, KEY_SIZE))


def is_zero(row):
    return max(row) == 0
