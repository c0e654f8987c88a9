"""Published vectors of ChaCha20, HChaCha20, Poly1305 and their AEAD, for what messages and records are made of."""

import unittest

from sealedstream.cipher import block, derived, mixed
from sealedstream.seals import opened, sealed, tag
from tests.helper import SUNSCREEN, SUNSCREEN_ALONG, SUNSCREEN_KEY, SUNSCREEN_NONCE, SUNSCREEN_SEALED, from_hex

COUNTING_KEY = list(range(32))


class Blocks(unittest.TestCase):
    def test_block_of_rfc_8439(self):
        expected = from_hex(
            "10f1e7e4d13b5915500fdd1fa32071c4c7d1f4c733c068030422aa9ac3d46c4e"
            "d2826446079faa0914c2d705d98b02a2b5129cd1de164eb9cbd083e8a2503c4e")
        self.assertEqual(block(COUNTING_KEY, 1, from_hex("000000090000004a00000000")), expected)

    def test_block_of_zeros(self):
        expected = from_hex(
            "76b8e0ada0f13d90405d6ae55386bd28bdd219b8a08ded1aa836efcc8b770dc7"
            "da41597c5157488d7724e03fb8d84a376a43b8f41518a11cc387b669b2ee6586")
        self.assertEqual(block([0] * 32, 0, [0] * 12), expected)

    def test_number_is_modulo_32_bits(self):
        self.assertEqual(block(COUNTING_KEY, 2 ** 32 + 1, [0] * 12), block(COUNTING_KEY, 1, [0] * 12))

    def test_derived_is_hchacha20(self):
        expected = from_hex("82413b4227b27bfed30e42508a877d73a0f9e4d58a74a853c12ec41326d3ecdc")
        self.assertEqual(derived(COUNTING_KEY, from_hex("000000090000004a0000000031415927")), expected)

    def test_mixed_is_derived_twice(self):
        row = list(range(100, 132))
        self.assertEqual(mixed(COUNTING_KEY, row), derived(derived(COUNTING_KEY, row[:16]), row[16:]))
        self.assertNotEqual(mixed(COUNTING_KEY, row), mixed(COUNTING_KEY, row[16:] + row[:16]))


class Tags(unittest.TestCase):
    def check(self, key, text, expected):
        self.assertEqual(tag(from_hex(key), text), from_hex(expected))

    def test_tag_of_rfc_8439(self):
        self.check("85d6be7857556d337f4452fe42d506a80103808afb0db2fd4abff6af4149f51b",
                   list(b"Cryptographic Forum Research Group"), "a8061dc1305136c6c22b8baf0c0127a9")

    def test_tag_of_nothing_is_the_keys_last_half(self):
        self.check("85d6be7857556d337f4452fe42d506a80103808afb0db2fd4abff6af4149f51b",
                   [], "0103808afb0db2fd4abff6af4149f51b")

    # The next ones are RFC 8439's for sums beyond 2^130 - 5 and beyond 2^128.
    def test_tag_beyond_the_prime(self):
        self.check("02" + "00" * 31, [255] * 16, "03" + "00" * 15)

    def test_tag_beyond_128_bits(self):
        self.check("02" + "00" * 15 + "ff" * 16, [2] + [0] * 15, "03" + "00" * 15)

    def test_tag_of_several_blocks(self):
        self.check("01" + "00" * 31, from_hex("ff" * 16 + "f0" + "ff" * 15 + "11" + "00" * 15), "05" + "00" * 15)

    def test_tag_that_is_zero(self):
        self.check("01" + "00" * 31, from_hex("ff" * 16 + "fb" + "fe" * 15 + "01" * 16), "00" * 16)

    def test_tag_of_the_prime_less_one(self):
        self.check("02" + "00" * 31, from_hex("fd" + "ff" * 15), "fa" + "ff" * 15)


class Sealing(unittest.TestCase):
    def test_sealed_of_rfc_8439(self):
        self.assertEqual(sealed(SUNSCREEN_KEY, SUNSCREEN_NONCE, SUNSCREEN_ALONG, SUNSCREEN), SUNSCREEN_SEALED)

    def test_opened_of_rfc_8439(self):
        self.assertEqual(opened(SUNSCREEN_KEY, SUNSCREEN_NONCE, SUNSCREEN_ALONG, SUNSCREEN_SEALED), SUNSCREEN)

    def test_opened_again_at_every_size(self):
        for size in (0, 1, 15, 16, 17, 63, 64, 65, 128):
            hidden = sealed(SUNSCREEN_KEY, SUNSCREEN_NONCE, [7] * size, [9] * size)
            self.assertEqual(len(hidden), size + 16)
            self.assertEqual(opened(SUNSCREEN_KEY, SUNSCREEN_NONCE, [7] * size, hidden), [9] * size)

    def test_any_change_is_not_opened(self):
        for place in (0, 63, 64, len(SUNSCREEN), len(SUNSCREEN_SEALED) - 1):
            changed = list(SUNSCREEN_SEALED)
            changed[place] ^= 1
            self.assertIsNone(opened(SUNSCREEN_KEY, SUNSCREEN_NONCE, SUNSCREEN_ALONG, changed))
        self.assertIsNone(opened(SUNSCREEN_KEY, SUNSCREEN_NONCE, SUNSCREEN_ALONG + [0], SUNSCREEN_SEALED))
        self.assertIsNone(opened(SUNSCREEN_KEY, [0] * 12, SUNSCREEN_ALONG, SUNSCREEN_SEALED))
        self.assertIsNone(opened(COUNTING_KEY, SUNSCREEN_NONCE, SUNSCREEN_ALONG, SUNSCREEN_SEALED))

    def test_fewer_than_16_bytes_are_not_opened(self):
        self.assertIsNone(opened(SUNSCREEN_KEY, SUNSCREEN_NONCE, [], []))
        self.assertIsNone(opened(SUNSCREEN_KEY, SUNSCREEN_NONCE, [], [0] * 15))


if __name__ == "__main__":
    unittest.main()
