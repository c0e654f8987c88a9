"""Promises 2 and 3: public, shared. The values are RFC 7748's, where it isn't said otherwise."""

import unittest

from tests.helper import (
    FIRST_OWN, FIRST_PUBLIC, SECOND_OWN, SECOND_PUBLIC, SMALL_POINTS, counted, from_hex, public, run, shared)

ALICE = from_hex("77076d0a7318a57d3c16c17251b26645df4c2f87ebc0992ab177fba51db92c2a")
ALICE_PUBLIC = from_hex("8520f0098930a754748b7ddcb43ef75a0dbf3a0d26381af4eba4a98eaa9b4e6a")
BOB = from_hex("5dab087e624a8a4b79e17f8b83800ee66f3bb1292618b6fd1c2f8b27ff88e0eb")
BOB_PUBLIC = from_hex("de9edb7d7b7dc1b4d35b61c2ece435373f8343c85b78674dadfc7e146f882b4f")
SECRET = from_hex("4a5d9d5ba4ce2de1728e3bf480350f25e07e21c947d19e3376f09b3c1e161742")
NINE = [9] + [0] * 31
WRONG_SIZES = (0, 1, 31, 33, 40)


class Public(unittest.TestCase):
    def test_published_keys(self):
        self.assertEqual(run(public(ALICE), public(BOB)), [counted(ALICE_PUBLIC), counted(BOB_PUBLIC)])

    def test_keys_of_the_helper(self):
        self.assertEqual(run(public(FIRST_OWN), public(SECOND_OWN)), [counted(FIRST_PUBLIC), counted(SECOND_PUBLIC)])

    def test_bits_that_do_not_count(self):
        # Bits 0 to 2 and 255 are taken for 0, and bit 254 for 1, whatever they are.
        changed = [ALICE[0] ^ 7] + ALICE[1:31] + [ALICE[31] ^ 0xC0]
        self.assertEqual(run(public(changed)), [counted(ALICE_PUBLIC)])

    def test_every_other_bit_counts(self):
        for place, mask in ((0, 8), (1, 1), (31, 0x20)):
            changed = list(ALICE)
            changed[place] ^= mask
            self.assertNotEqual(run(public(changed)), [counted(ALICE_PUBLIC)])

    def test_key_of_another_size(self):
        for size in WRONG_SIZES:
            self.assertEqual(run(public([1] * size)), [[-1]])


class Shared(unittest.TestCase):
    def test_published_secret_from_both_sides(self):
        self.assertEqual(run(shared(ALICE, BOB_PUBLIC), shared(BOB, ALICE_PUBLIC)), [counted(SECRET)] * 2)

    def test_first_published_point(self):
        key = from_hex("a546e36bf0527c9d3b16154b82465edd62144c0ac1fc5a18506a2244ba449ac4")
        point = from_hex("e6db6867583030db3594c1a424b15f7c726624ec26b3353b10a903a6d0ab1c4c")
        expected = from_hex("c3da55379de9c6908e94ea4df28d084f32eccf03491c71f754b4075577a28552")
        self.assertEqual(run(shared(key, point)), [counted(expected)])

    def test_second_published_point_with_its_highest_bit_set(self):
        key = from_hex("4b66e9d4d1b4673c5ad22691957d6af5c11b6421e0ea01d42ca4169e7918ba0d")
        point = from_hex("e5210f12786811d3f4b7959d0538ae2c31dbe7106fc03c3efc4cd549c715a493")
        expected = from_hex("95cbde9476e8907d7aade45cb4b873f88b595a68799fa152e6f8f7647aac7957")
        self.assertEqual(run(shared(key, point)), [counted(expected)])

    def test_a_thousand_turns(self):
        key = NINE
        point = NINE
        for turn in range(1000):
            result = run(shared(key, point))[0][1:]
            point = key
            key = result
            if turn == 0:
                first = result
        self.assertEqual(first, from_hex("422c8e7a6227d7bca1350b3e2bb7279f7897b87bb6854b783c60e80311ae3079"))
        self.assertEqual(key, from_hex("684cf59ba83309552800ef566f2f4d3c1c3887c49360e3875f2eb94d99532c51"))

    def test_point_beyond_the_prime(self):
        # P + 9 with and without the highest bit is the point 9.
        beyond = from_hex("f6" + "ff" * 30 + "7f")
        beyond_and_high = from_hex("f6" + "ff" * 30 + "ff")
        answered = run(shared(ALICE, beyond), shared(ALICE, beyond_and_high))
        self.assertEqual(answered, [counted(ALICE_PUBLIC)] * 2)

    def test_secret_of_zeros_is_refused(self):
        for point in SMALL_POINTS:
            self.assertEqual(run(shared(ALICE, point)), [[-3]])

    def test_key_or_point_of_another_size(self):
        for size in WRONG_SIZES:
            self.assertEqual(run(shared([1] * size, NINE), shared(ALICE, [1] * size)), [[-1], [-1]])

    def test_size_is_refused_before_zeros(self):
        self.assertEqual(run(shared([1] * 31, [0] * 32), shared(ALICE, [0] * 33)), [[-1], [-1]])


if __name__ == "__main__":
    unittest.main()
