"""Poly1305's tag, and bytes sealed and opened by ChaCha20 with it."""

from sealedstream.cipher import block
from sealedstream.little import bytes_of, number_of

KEPT_OF_R = 0x0FFFFFFC0FFFFFFC0FFFFFFC0FFFFFFF
TAG_PRIME = 0x3FFFFFFFFFFFFFFFFFFFFFFFFFFFFFFFB
TAG_SIZE = 16
NONCE_SIZE = 12
BLOCK_SIZE = 64


def tag(key, row):
    r = number_of(key[:16]) & KEPT_OF_R
    total = 0
    for place in range(0, len(row), 16):
        part = row[place:place + 16]
        total = (total + number_of(part + [1])) * r % TAG_PRIME
    return bytes_of(total + number_of(key[16:]), TAG_SIZE)


def padded(row):
    return row + [0] * (-len(row) % 16)


def tag_of_sealed(key, nonce, along, hidden):
    sizes = bytes_of(len(along), 8) + bytes_of(len(hidden), 8)
    return tag(block(key, 0, nonce)[:32], padded(along) + padded(hidden) + sizes)


def crossed(key, nonce, row):
    result = []
    for place in range(0, len(row), BLOCK_SIZE):
        stream = block(key, place // BLOCK_SIZE + 1, nonce)
        part = row[place:place + BLOCK_SIZE]
        result.extend([byte ^ mask for byte, mask in zip(part, stream)])
    return result


def sealed(key, nonce, along, row):
    hidden = crossed(key, nonce, row)
    return hidden + tag_of_sealed(key, nonce, along, hidden)


def opened(key, nonce, along, row):
    # None stands for a tag that is not right.
    if len(row) < TAG_SIZE:
        return None
    hidden = row[:-TAG_SIZE]
    if tag_of_sealed(key, nonce, along, hidden) != row[-TAG_SIZE:]:
        return None
    return crossed(key, nonce, hidden)
