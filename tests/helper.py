"""Calls laid out as the interface tells, and one stream's bytes to hold answers against.

The stream's bytes (FIRST_MESSAGE and what follows) were worked out from the
document's words by another program, over OpenSSL's X25519, ChaCha20 and
ChaCha20-Poly1305.
"""

from sealedstream.end import answers

FIRST_OWN = list(range(1, 33))
SECOND_OWN = list(range(33, 65))
FIRST_FLEETING = list(range(65, 97))
SECOND_FLEETING = list(range(97, 129))


def from_hex(text):
    return list(bytes.fromhex(text))


FIRST_PUBLIC = from_hex("07a37cbc142093c8b755dc1b10e86cb426374ad16aa853ed0bdfc0b2b86d1c7c")
SECOND_PUBLIC = from_hex("5869aff450549732cbaaed5e5df9b30a6da31cb0e5742bad5ad4a1a768f1a67b")
FIRST_MESSAGE = from_hex(
    "64b101b1d0be5a8704bd078f9895001fc03e8e9f9522f188dd128d9846d48466"
    "ba702f1f4ae2d4dce5adf043aab33b69")
SECOND_MESSAGE = from_hex(
    "244fe3b963e899dd295baffce248d3530f3a9a7479ba063002680ebfe7adad49"
    "f06afb302b869c9727f7553b15a834c9")

# What the first end sends with every 2: hello, x, a new key, yz, a new key, the end.
FIRST_HELLO = from_hex("001627a6b9a9d6851f13e22d06d58f1903c4cdc6729046d7")
FIRST_X = from_hex("0012aed23f86a6615cacc69e59667d21c49d1337")
FIRST_NEW_KEY = from_hex("0011d3b8319495439dcd501ed97e6903dd8163")
FIRST_YZ = from_hex("0013252a8ae75ae5bec021017c21e8042597df1738")
FIRST_SECOND_NEW_KEY = from_hex("001155ff0cf6196eeb7e9cc4a97447ddb21de8")
FIRST_END = from_hex("00113174b8e2ee630e92f4cf0f0a2875e2da6b")

# What the second end sends: back, a new key, again, 20000 bytes (their SHA-256), the end.
SECOND_BACK = from_hex("0015140bd119bfc91869a34a8a37979bc8b6df65a3633e")
SECOND_NEW_KEY = from_hex("001125e3b8f8824f15700989d60b94b8e53c8b")
SECOND_AGAIN = from_hex("00167119af5fd08e1285266d43831e4ee27245ed8ce7b994")
LONG_DATA = [(place * 7 + 3) % 256 for place in range(20000)]
SECOND_LONG_SHA256 = "94b342a34ae494ff1d0e541220c5e9329a9823210e1d37c31987e65bc4acca92"
SECOND_END = from_hex("001114dc0ce9b878db5f9594269e6e34dcd570")

# All that the first end sends with every 2 behind its message, and the data in it.
FIRST_RECORDS = (FIRST_HELLO, FIRST_X, FIRST_NEW_KEY, FIRST_YZ, FIRST_SECOND_NEW_KEY, FIRST_END)
FIRST_STREAM = [byte for record in FIRST_RECORDS for byte in record]
FIRST_DATA = list(b"helloxyz")

# The same of the second end, but for the 20000 bytes.
SECOND_STREAM = SECOND_BACK + SECOND_NEW_KEY + SECOND_AGAIN

# The first end's key when it's sealed, and records that it seals as the first ones, such as no call makes among them.
FIRST_KEY = from_hex("0370a24de2bb1ee8bc3f7cf17dcc5ce6adfe4d10fd0314261584e07c04d353f5")
RIGHT_RECORDS = {
    (0, 5): from_hex("001227cb51ef4cb625e5752b60625bf12e81466e"),
    (1, None): from_hex("0011268c27570e2f8f982df7c0f8abd2f8c29c"),
    (2, None): from_hex("00112562932ea0b467366b7c8774f8d6ad774b"),
}
WRONG_RECORDS = {
    (0, None): from_hex("001127bbbb7f7ca9b6faef71fa7c5fce430eee"),
    (1, 5): from_hex("001226cb225b2448abbd1369e528d73d3336fb1c"),
    (2, 5): from_hex("001225cbf3c6fbd93096b1a66aef528a37ebafcb"),
    (3, None): from_hex("00112433ff05323a40d4a8014ef044db622cfa"),
    (3, 5): from_hex("001224cbc932d36bb66e4fe4efb5ced63ba0647a"),
    (255, None): from_hex("0011d8a42f8ea64f02d85552b8e87dd51b1d23"),
}
FULL_DATA = [place % 251 for place in range(16384)]
FULL_RECORD_SHA256 = "05cd4878ebcc445d032d12a79de98c21bf0262c484a47768d845971bc4f4b257"

# What RFC 8439 seals.
SUNSCREEN = list(
    b"Ladies and Gentlemen of the class of '99: If I could offer you only one tip"
    b" for the future, sunscreen would be it.")
SUNSCREEN_KEY = list(range(0x80, 0xA0))
SUNSCREEN_NONCE = from_hex("070000004041424344454647")
SUNSCREEN_ALONG = from_hex("50515253c0c1c2c3c4c5c6c7")
SUNSCREEN_SEALED = from_hex(
    "d31a8d34648e60db7b86afbc53ef7ec2a4aded51296e08fea9e2b5a736ee62d6"
    "3dbea45e8ca9671282fafb69da92728b1a71de0a9e060b2905d6a5b67ecd3b36"
    "92ddbd7f2d778b8c9803aee328091b58fab324e4fad675945585808b4831d7bc"
    "3ff4def08e4b7a9de576d26586cec64b6116"
    "1ae10b594f09e26a7e902ecbd0600691")

RENEW = [5]
END = [6]
CUT = [10]
STATE = [11]

# Points of small order, in all the forms that 32 bytes have: each gives 0 with any key.
SMALL_POINTS = [
    from_hex(text) for text in (
        "0000000000000000000000000000000000000000000000000000000000000000",
        "0100000000000000000000000000000000000000000000000000000000000000",
        "e0eb7a7c3b41b8ae1656e3faf19fc46ada098deb9c32b1fd866205165f49b800",
        "5f9c95bca3508c24b1d0b1559c83ef5b04445cc4581c8e86d8224eddd09f1157",
        "ecffffffffffffffffffffffffffffffffffffffffffffffffffffffffffff7f",
        "edffffffffffffffffffffffffffffffffffffffffffffffffffffffffffff7f",
        "eeffffffffffffffffffffffffffffffffffffffffffffffffffffffffffff7f",
        "0000000000000000000000000000000000000000000000000000000000000080",
    )
]


def row(numbers):
    return [len(numbers)] + list(numbers)


def opening(first, every, own, other, fleeting):
    return [1, first, every] + row(own) + row(other) + row(fleeting)


def open_first(every=0):
    return opening(1, every, FIRST_OWN, SECOND_PUBLIC, FIRST_FLEETING)


def open_second(every=0):
    return opening(0, every, SECOND_OWN, FIRST_PUBLIC, SECOND_FLEETING)


def public(key):
    return [2] + row(key)


def shared(key, point):
    return [3] + row(key) + row(point)


def write(data):
    return [4] + row(data)


def take(most):
    return [7, most]


def came(data):
    return [8] + row(data)


def read(most):
    return [9, most]


def seal(key, nonce, along, data):
    return [12] + row(key) + row(nonce) + row(along) + row(data)


def unseal(key, nonce, along, data):
    return [13] + row(key) + row(nonce) + row(along) + row(data)


def changed(numbers, place, mask=1):
    return numbers[:place] + [numbers[place] ^ mask] + numbers[place + 1:]


def split_answers(numbers):
    answered = []
    place = 0
    while place < len(numbers):
        size = numbers[place]
        answered.append(numbers[place + 1:place + 1 + size])
        place += 1 + size
    return answered


def run(*calls):
    """The answers to these calls on one new end, a list for each."""
    return split_answers(answers([number for call in calls for number in call]))


def sealed_first(every=0):
    """Calls that leave a sealed first end with nothing to be sent: three answers."""
    return [open_first(every), came(SECOND_MESSAGE), take(48)]


def sealed_second(every=0):
    return [open_second(every), came(FIRST_MESSAGE), take(48)]


def broken_first():
    return [open_first(), came([0] * 48)]


def run_sealed(*calls):
    """The answers to these calls on a sealed first end that has nothing to be sent."""
    return run(*sealed_first(), *calls)[3:]


def come(*pieces):
    """The first numbers that a sealed second end answers to these pieces, and to a write behind them."""
    return [answer[0] for answer in run(*sealed_second(), *[came(piece) for piece in pieces], write([1]))[3:]]


def counted(numbers):
    return [len(numbers)] + list(numbers)


def rest_sizes(sent):
    """How long the rest of each record is, by the records' own first two bytes."""
    sizes = []
    place = 0
    while place < len(sent):
        size = sent[place] * 256 + sent[place + 1]
        sizes.append(size)
        place += 2 + size
    return sizes
