"""ChaCha20's block, and keys derived and mixed by the same rounds."""

from sealedstream.little import bytes_of, number_of

MASK = 0xFFFFFFFF
CONSTANTS = (0x61707865, 0x3320646E, 0x79622D32, 0x6B206574)
QUARTERS = (
    (0, 4, 8, 12), (1, 5, 9, 13), (2, 6, 10, 14), (3, 7, 11, 15),
    (0, 5, 10, 15), (1, 6, 11, 12), (2, 7, 8, 13), (3, 4, 9, 14),
)


def words_of(row):
    return [number_of(row[place:place + 4]) for place in range(0, len(row), 4)]


def bytes_of_words(words):
    row = []
    for word in words:
        row.extend(bytes_of(word, 4))
    return row


def turned(word, bits):
    return ((word << bits) & MASK) | (word >> (32 - bits))


def quarter(words, places):
    a = words[places[0]]
    b = words[places[1]]
    c = words[places[2]]
    d = words[places[3]]
    a = (a + b) & MASK
    d = turned(d ^ a, 16)
    c = (c + d) & MASK
    b = turned(b ^ c, 12)
    a = (a + b) & MASK
    d = turned(d ^ a, 8)
    c = (c + d) & MASK
    b = turned(b ^ c, 7)
    words[places[0]] = a
    words[places[1]] = b
    words[places[2]] = c
    words[places[3]] = d


def ten_rounds(start):
    words = list(start)
    for turn in range(10):
        for places in QUARTERS:
            quarter(words, places)
    return words


def block(key, number, nonce):
    start = list(CONSTANTS) + words_of(key) + [number & MASK] + words_of(nonce)
    words = ten_rounds(start)
    return bytes_of_words([(word + first) & MASK for word, first in zip(words, start)])


def derived(key, row):
    words = ten_rounds(list(CONSTANTS) + words_of(key) + words_of(row))
    return bytes_of_words(words[:4] + words[12:])


def mixed(key, row):
    return derived(derived(key, row[:16]), row[16:])
