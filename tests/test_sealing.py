"""Promises 12 and 13: seal, unseal. The published values are RFC 8439's."""

import hashlib
import unittest

from tests.helper import (
    FIRST_HELLO, FIRST_KEY, STATE, SUNSCREEN, SUNSCREEN_ALONG, SUNSCREEN_KEY, SUNSCREEN_NONCE, SUNSCREEN_SEALED,
    broken_first, changed, counted, from_hex, open_first, run, seal, sealed_first, unseal)

KEY = list(range(32))
NONCE = list(range(12))
DRAFTS_KEY = from_hex("1c9240a5eb55d38af333888604f6b5f0473917c1402b80099dca5cbc207075c0")
DRAFTS_NONCE = from_hex("000000000102030405060708")
DRAFTS_ALONG = from_hex("f33388860000000000004e91")
DRAFTS = list((
    "Internet-Drafts are draft documents valid for a maximum of six months and may be updated, replaced, or obsoleted"
    " by other documents at any time. It is inappropriate to use Internet-Drafts as reference material or to cite them"
    " other than as /\u201cwork in progress./\u201d").encode("utf-8"))
DRAFTS_SEALED = from_hex(
    "64a0861575861af460f062c79be643bd5e805cfd345cf389f108670ac76c8cb24c6cfc18755d43eea09ee94e382d26b0bdb7b73c321b0100"
    "d4f03b7f355894cf332f830e710b97ce98c8a84abd0b948114ad176e008d33bd60f982b1ff37c8559797a06ef4f0ef61c186324e2b350638"
    "3606907b6a7c02b0f9f6157b53c867e4b9166c767b804d46a59b5216cde7a4e99040c5a40433225ee282a1b0a06c523eaf4534d7f83fa115"
    "5b0047718cbc546a0d072b04b3564eea1b422273f548271a0bb2316053fa76991955ebd63159434ecebb4e466dae5a1073a6727627097a10"
    "49e617d91d361094fa68f0ff77987130305beaba2eda04df997b714d6c6f2c29a6ad5cb4022b02709b"
    "eead9d67890cbb22392336fea1851f38")

# Worked out by OpenSSL's ChaCha20-Poly1305 with KEY and NONCE.
NOTHING_SEALED = from_hex("295a498b8841a1c5f55d4d606f731159")
ALONG_ALONE_SEALED = from_hex("62d251a9d1e7b184fd1f2e0cce026a60")
LONG_ALONG = [place % 256 for place in range(4000)]
LONG = [(place * 7 + 3) % 256 for place in range(20000)]
LONG_SHA256 = "895d26566a186601bff2276890e4dbef71800c36b08aa301e0209181940c811b"

# Sizes round the blocks' 64 bytes and the tag's 16.
SIZES = (0, 1, 15, 16, 17, 63, 64, 65, 128)
WRONG_KEY_SIZES = (0, 1, 31, 33, 40)
WRONG_NONCE_SIZES = (0, 1, 11, 13, 16)


class Seal(unittest.TestCase):
    def test_published(self):
        self.assertEqual(run(seal(SUNSCREEN_KEY, SUNSCREEN_NONCE, SUNSCREEN_ALONG, SUNSCREEN),
                             seal(DRAFTS_KEY, DRAFTS_NONCE, DRAFTS_ALONG, DRAFTS)),
                         [counted(SUNSCREEN_SEALED), counted(DRAFTS_SEALED)])

    def test_nothing(self):
        self.assertEqual(run(seal(KEY, NONCE, [], [])), [counted(NOTHING_SEALED)])
        self.assertEqual(run(seal(KEY, NONCE, list(b"along"), [])), [counted(ALONG_ALONE_SEALED)])

    def test_many_blocks(self):
        answer = run(seal(KEY, NONCE, LONG_ALONG, LONG))[0]
        self.assertEqual(answer[0], 20016)
        self.assertEqual(hashlib.sha256(bytes(answer[1:])).hexdigest(), LONG_SHA256)

    def test_a_record_of_a_stream(self):
        self.assertEqual(run(seal(FIRST_KEY, [0] * 12, [0, 22], [0] + list(b"hello"))), [counted(FIRST_HELLO[2:])])

    def test_key_and_nonce_of_another_size(self):
        for size in WRONG_KEY_SIZES:
            self.assertEqual(run(seal([1] * size, NONCE, [], [1])), [[-1]])
        for size in WRONG_NONCE_SIZES:
            self.assertEqual(run(seal(KEY, [1] * size, [], [1])), [[-1]])

    def test_other_bytes_are_65536_at_the_most(self):
        self.assertEqual(run(seal(KEY, NONCE, [], [0] * 65537), seal(KEY, NONCE, [0] * 65537, [])), [[-1], [-1]])
        answered = run(seal(KEY, NONCE, [], [0] * 65536), seal(KEY, NONCE, [0] * 65536, []))
        self.assertEqual([answer[0] for answer in answered], [65552, 16])


class Unseal(unittest.TestCase):
    def test_published(self):
        self.assertEqual(run(unseal(SUNSCREEN_KEY, SUNSCREEN_NONCE, SUNSCREEN_ALONG, SUNSCREEN_SEALED),
                             unseal(DRAFTS_KEY, DRAFTS_NONCE, DRAFTS_ALONG, DRAFTS_SEALED)),
                         [counted(SUNSCREEN), counted(DRAFTS)])

    def test_nothing(self):
        self.assertEqual(run(unseal(KEY, NONCE, [], NOTHING_SEALED), unseal(KEY, NONCE, [], ALONG_ALONE_SEALED),
                             unseal(KEY, NONCE, list(b"along"), ALONG_ALONE_SEALED)), [[0], [-3], [0]])

    def test_what_seal_made(self):
        for size in SIZES:
            for along in ([], [7] * size):
                hidden = run(seal(KEY, NONCE, along, [9] * size))[0]
                self.assertEqual(hidden[0], size + 16)
                self.assertEqual(run(unseal(KEY, NONCE, along, hidden[1:])), [counted([9] * size)])

    def test_a_changed_byte(self):
        for place in range(len(SUNSCREEN_SEALED)):
            hidden = changed(SUNSCREEN_SEALED, place)
            self.assertEqual(run(unseal(SUNSCREEN_KEY, SUNSCREEN_NONCE, SUNSCREEN_ALONG, hidden)), [[-3]], place)

    def test_another_key_nonce_or_along(self):
        whole = (SUNSCREEN_KEY, SUNSCREEN_NONCE, SUNSCREEN_ALONG, SUNSCREEN_SEALED)
        for part in range(3):
            for place in range(len(whole[part])):
                rows = [changed(row, place) if number == part else row for number, row in enumerate(whole)]
                self.assertEqual(run(unseal(*rows)), [[-3]], (part, place))
        self.assertEqual(run(unseal(SUNSCREEN_KEY, SUNSCREEN_NONCE, [], SUNSCREEN_SEALED)), [[-3]])

    def test_zeros_that_are_added_are_not_the_same(self):
        # The bytes of 0 to a multiple of 16 are there already, but the sizes tell them apart.
        self.assertEqual(run(unseal(SUNSCREEN_KEY, SUNSCREEN_NONCE, SUNSCREEN_ALONG + [0], SUNSCREEN_SEALED)), [[-3]])
        longer = SUNSCREEN_SEALED[:-16] + [0] + SUNSCREEN_SEALED[-16:]
        self.assertEqual(run(unseal(SUNSCREEN_KEY, SUNSCREEN_NONCE, SUNSCREEN_ALONG, longer)), [[-3]])

    def test_a_byte_fewer_or_more(self):
        for hidden in (SUNSCREEN_SEALED[:-1], SUNSCREEN_SEALED[1:], SUNSCREEN_SEALED + [0]):
            self.assertEqual(run(unseal(SUNSCREEN_KEY, SUNSCREEN_NONCE, SUNSCREEN_ALONG, hidden)), [[-3]])

    def test_fewer_than_16_bytes(self):
        for size in (0, 1, 15):
            self.assertEqual(run(unseal(KEY, NONCE, [], NOTHING_SEALED[:size])), [[-3]])

    def test_key_and_nonce_of_another_size(self):
        for size in WRONG_KEY_SIZES:
            self.assertEqual(run(unseal([1] * size, NONCE, [], NOTHING_SEALED), unseal([1] * size, NONCE, [], [])),
                             [[-1], [-1]])
        for size in WRONG_NONCE_SIZES:
            self.assertEqual(run(unseal(KEY, [1] * size, [], NOTHING_SEALED), unseal(KEY, [1] * size, [], [])),
                             [[-1], [-1]])

    def test_other_bytes_are_65552_at_the_most(self):
        hidden = run(seal(KEY, NONCE, [], [5] * 65536))[0][1:]
        self.assertEqual(run(unseal(KEY, NONCE, [], hidden)), [counted([5] * 65536)])
        self.assertEqual(run(unseal(KEY, NONCE, [], hidden + [0]), unseal(KEY, NONCE, [], changed(hidden, 65551))),
                         [[-1], [-3]])
        self.assertEqual(run(unseal(KEY, NONCE, [0] * 65553, []), unseal(KEY, NONCE, [0] * 65552, [])), [[-1], [-3]])


class OnAnyEnd(unittest.TestCase):
    def test_how_the_end_stands_is_nothing_to_them(self):
        pair = [seal(KEY, NONCE, [], []), unseal(KEY, NONCE, [], NOTHING_SEALED), unseal(KEY, NONCE, [], [0] * 16)]
        for calls in ([], [open_first()], sealed_first(), broken_first()):
            before = run(*calls, STATE)[-1]
            answered = run(*calls, *pair, STATE)
            self.assertEqual(answered[len(calls):], [counted(NOTHING_SEALED), [0], [-3], before])


if __name__ == "__main__":
    unittest.main()
