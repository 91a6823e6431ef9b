"""What it's made of: HASH, MAC, HMAC, KDFn, DH, PUB, SEAL and OPEN."""

import unittest

from tests import reference
from tests.points import PRIME, worthless_points
from tests.support import changed_at, some
from twoends.blake import digest, mac
from twoends.chacha import crypted, stream_block
from twoends.curve import agreed, public, worth_nothing
from twoends.derive import drawn, hmac
from twoends.octets import filled, number_of, octets_of
from twoends.poly import poly_tag
from twoends.seal import seal, unseal

HASH_LENGTHS = (0, 1, 2, 31, 32, 33, 63, 64, 65, 127, 128, 129, 191, 192, 193, 1000, 29000)
SEAL_LENGTHS = (0, 1, 15, 16, 17, 31, 32, 33, 63, 64, 65, 127, 128, 129, 1000)


def octets(text):
    return list(bytes.fromhex(text))


class OctetsTest(unittest.TestCase):
    def test_lowest_byte_first(self):
        self.assertEqual(octets_of(0x01020304, 4), [4, 3, 2, 1])
        self.assertEqual(octets_of(1, 8), [1, 0, 0, 0, 0, 0, 0, 0])
        self.assertEqual(number_of([4, 3, 2, 1]), 0x01020304)
        self.assertEqual(number_of([255] * 8), 2**64 - 1)
        self.assertEqual(number_of([]), 0)

    def test_filled(self):
        for size, whole in ((0, 0), (1, 16), (15, 16), (16, 16), (17, 32)):
            self.assertEqual(filled([7] * size, 16), [7] * size + [0] * (whole - size))


class BlakeTest(unittest.TestCase):
    def test_rfc_7693(self):
        wanted = "508c5e8c327c14e2e1a72ba34eeb452f37458b209ed63a294d999b4c86675982"
        self.assertEqual(digest(list(b"abc")), octets(wanted))

    def test_hash_round_the_edges(self):
        for size in HASH_LENGTHS:
            with self.subTest(size=size):
                data = some(("hash", size), size)
                self.assertEqual(bytes(digest(list(data))), reference.HASH(data))

    def test_mac_round_the_edges(self):
        for size in HASH_LENGTHS:
            with self.subTest(size=size):
                data, key = some(("mac", size), size), some(("key", size))
                given = mac(list(key), list(data))
                self.assertEqual(len(given), 16)
                self.assertEqual(bytes(given), reference.MAC(key, data))

    def test_hmac_round_the_edges(self):
        for size in HASH_LENGTHS:
            with self.subTest(size=size):
                data, key = some(("hmac", size), size), some(("key", size))
                self.assertEqual(bytes(hmac(list(key), list(data))), reference.HMAC(key, data))

    def test_hmac_with_keys_of_other_lengths(self):
        for size in (0, 1, 63, 64, 65, 128, 129):
            with self.subTest(size=size):
                data, key = some("data"), some(("long key", size), size)
                self.assertEqual(bytes(hmac(list(key), list(data))), reference.HMAC(key, data))

    def test_nothing_handed_in_is_changed(self):
        key, data = [1] * 32, [2] * 70
        digest(data)
        mac(key, data)
        hmac(key, data)
        self.assertEqual((key, data), ([1] * 32, [2] * 70))


class DrawnTest(unittest.TestCase):
    def test_one_two_three_keys(self):
        for count in (1, 2, 3):
            for size in (0, 1, 32, 64):
                with self.subTest(count=count, size=size):
                    key, data = some(("chain", size)), some(("data", size), size)
                    given = [bytes(one) for one in drawn(count, list(key), list(data))]
                    self.assertEqual(given, reference.KDF(count, key, data))


class CurveTest(unittest.TestCase):
    def test_rfc_7748_single(self):
        for s, p, wanted in (
            ("a546e36bf0527c9d3b16154b82465edd62144c0ac1fc5a18506a2244ba449ac4",
             "e6db6867583030db3594c1a424b15f7c726624ec26b3353b10a903a6d0ab1c4c",
             "c3da55379de9c6908e94ea4df28d084f32eccf03491c71f754b4075577a28552"),
            ("4b66e9d4d1b4673c5ad22691957d6af5c11b6421e0ea01d42ca4169e7918ba0d",
             "e5210f12786811d3f4b7959d0538ae2c31dbe7106fc03c3efc4cd549c715a493",
             "95cbde9476e8907d7aade45cb4b873f88b595a68799fa152e6f8f7647aac7957"),
        ):
            self.assertEqual(agreed(octets(s), octets(p)), octets(wanted))

    def test_rfc_7748_again_and_again(self):
        k = u = octets_of(9, 32)
        for turn in range(1000):
            k, u = agreed(k, u), k
            if turn == 0:
                self.assertEqual(
                    k, octets("422c8e7a6227d7bca1350b3e2bb7279f7897b87bb6854b783c60e80311ae3079"))
        self.assertEqual(k, octets("684cf59ba83309552800ef566f2f4d3c1c3887c49360e3875f2eb94d99532c51"))

    def test_rfc_7748_two_ends(self):
        a = octets("77076d0a7318a57d3c16c17251b26645df4c2f87ebc0992ab177fba51db92c2a")
        b = octets("5dab087e624a8a4b79e17f8b83800ee66f3bb1292618b6fd1c2f8b27ff88e0eb")
        pub_a = octets("8520f0098930a754748b7ddcb43ef75a0dbf3a0d26381af4eba4a98eaa9b4e6a")
        pub_b = octets("de9edb7d7b7dc1b4d35b61c2ece435373f8343c85b78674dadfc7e146f882b4f")
        both = octets("4a5d9d5ba4ce2de1728e3bf480350f25e07e21c947d19e3376f09b3c1e161742")
        self.assertEqual(public(a), pub_a)
        self.assertEqual(public(b), pub_b)
        self.assertEqual(agreed(a, pub_b), both)
        self.assertEqual(agreed(b, pub_a), both)

    def test_numbers_not_below_the_prime(self):
        s = list(some("secret"))
        for more in range(2, 19):
            with self.subTest(more=more):
                self.assertEqual(agreed(s, octets_of(PRIME + more, 32)), agreed(s, octets_of(more, 32)))

    def test_the_highest_bit_is_not_looked_at(self):
        s = list(some("secret"))
        for label in range(5):
            p = some(("point", label))[:31] + bytes([label])
            high = p[:31] + bytes([p[31] | 128])
            self.assertEqual(agreed(s, list(high)), agreed(s, list(p)))
        self.assertEqual(agreed(s, [255] * 32), agreed(s, octets_of(18, 32)))

    def test_secrets_are_clamped(self):
        p = list(public(list(some("other"))))
        s = some("secret")
        for twin in (changed_at(s, 0, 7), changed_at(s, 31, 128), changed_at(s, 31, 64)):
            self.assertEqual(agreed(list(twin), p), agreed(list(s), p))
        self.assertNotEqual(agreed(list(changed_at(s, 0, 8)), p), agreed(list(s), p))
        for edge in ([0] * 32, [255] * 32):
            self.assertEqual(bytes(agreed(edge, p)), reference.DH(bytes(edge), bytes(p)))

    def test_against_the_reference(self):
        for label in range(40):
            s, p = some(("s", label)), some(("p", label))
            self.assertEqual(bytes(agreed(list(s), list(p))), reference.DH(s, p))

    def test_worth_nothing(self):
        for s in (some("secret"), bytes(32), bytes([255] * 32)):
            for p in worthless_points():
                with self.subTest(p=p.hex()):
                    given = agreed(list(s), list(p))
                    self.assertEqual(given, [0] * 32)
                    self.assertTrue(worth_nothing(given))

    def test_worth_something(self):
        for at in range(32):
            self.assertFalse(worth_nothing(list(changed_at(bytes(32), at))))
        for low in range(2, 10):
            self.assertFalse(worth_nothing(agreed([1] * 32, octets_of(low, 32))))


class CipherTest(unittest.TestCase):
    def test_rfc_8439_block(self):
        wanted = ("10f1e7e4d13b5915500fdd1fa32071c4c7d1f4c733c068030422aa9ac3d46c4e"
                  "d2826446079faa0914c2d705d98b02a2b5129cd1de164eb9cbd083e8a2503c4e")
        given = stream_block(list(range(32)), 1, octets("000000090000004a00000000"))
        self.assertEqual(given, octets(wanted))

    def test_rfc_8439_stream(self):
        plain = (b"Ladies and Gentlemen of the class of '99: If I could offer you only one tip"
                 b" for the future, sunscreen would be it.")
        wanted = ("d31a8d34648e60db7b86afbc53ef7ec2a4aded51296e08fea9e2b5a736ee62d6"
                  "3dbea45e8ca9671282fafb69da92728b1a71de0a9e060b2905d6a5b67ecd3b36"
                  "92ddbd7f2d778b8c9803aee328091b58fab324e4fad675945585808b4831d7bc"
                  "3ff4def08e4b7a9de576d26586cec64b6116")
        given = crypted(list(range(128, 160)), octets("070000004041424344454647"), list(plain))
        self.assertEqual(given, octets(wanted))

    def test_rfc_8439_tag(self):
        key = octets("85d6be7857556d337f4452fe42d506a80103808afb0db2fd4abff6af4149f51b")
        given = poly_tag(key, list(b"Cryptographic Forum Research Group"))
        self.assertEqual(given, octets("a8061dc1305136c6c22b8baf0c0127a9"))

    def test_rfc_8439_tag_at_the_prime(self):
        for r, s, data, wanted in (
            ("02" + "00" * 15, "00" * 16, "ff" * 16, "03" + "00" * 15),
            ("02" + "00" * 15, "ff" * 16, "02" + "00" * 15, "03" + "00" * 15),
            ("01" + "00" * 15, "00" * 16, "ff" * 16 + "f0" + "ff" * 15 + "11" + "00" * 15, "05" + "00" * 15),
            ("01" + "00" * 15, "00" * 16, "ff" * 16 + "fb" + "fe" * 15 + "01" * 16, "00" * 16),
            ("02" + "00" * 15, "00" * 16, "fd" + "ff" * 15, "fa" + "ff" * 15),
        ):
            with self.subTest(data=data):
                self.assertEqual(poly_tag(octets(r + s), octets(data)), octets(wanted))


RFC_8439_PLAIN = (
    "Internet-Drafts are draft documents valid for a maximum of six months and may be updated, replaced, or"
    " obsoleted by other documents at any time. It is inappropriate to use Internet-Drafts as reference"
    " material or to cite them other than as /\u201cwork in progress./\u201d")
RFC_8439_SEALED = (
    "64a0861575861af460f062c79be643bd5e805cfd345cf389f108670ac76c8cb24c6cfc18755d43eea09ee94e382d26b0"
    "bdb7b73c321b0100d4f03b7f355894cf332f830e710b97ce98c8a84abd0b948114ad176e008d33bd60f982b1ff37c855"
    "9797a06ef4f0ef61c186324e2b3506383606907b6a7c02b0f9f6157b53c867e4b9166c767b804d46a59b5216cde7a4e9"
    "9040c5a40433225ee282a1b0a06c523eaf4534d7f83fa1155b0047718cbc546a0d072b04b3564eea1b422273f548271a"
    "0bb2316053fa76991955ebd63159434ecebb4e466dae5a1073a6727627097a1049e617d91d361094fa68f0ff77987130"
    "305beaba2eda04df997b714d6c6f2c29a6ad5cb4022b02709beead9d67890cbb22392336fea1851f38")


class SealTest(unittest.TestCase):
    def test_rfc_8439(self):
        key = octets("1c9240a5eb55d38af333888604f6b5f0473917c1402b80099dca5cbc207075c0")
        seen = octets("f33388860000000000004e91")
        plain = list(RFC_8439_PLAIN.encode())
        self.assertEqual(seal(key, 0x0807060504030201, plain, seen), octets(RFC_8439_SEALED))
        self.assertEqual(unseal(key, 0x0807060504030201, octets(RFC_8439_SEALED), seen), plain)

    def test_every_length_with_every_other(self):
        key = some("key")
        for size in SEAL_LENGTHS:
            for seen_size in SEAL_LENGTHS:
                with self.subTest(size=size, seen_size=seen_size):
                    plain, seen = some("plain", size), some("seen", seen_size)
                    sealed = seal(list(key), size, list(plain), list(seen))
                    self.assertEqual(len(sealed), size + 16)
                    self.assertEqual(bytes(sealed), reference.SEAL(key, size, plain, seen))
                    self.assertEqual(unseal(list(key), size, sealed, list(seen)), list(plain))

    def test_numbers_up_to_the_greatest(self):
        key = some("key")
        for count in (0, 1, 255, 256, 2**32 - 1, 2**32, 2**60, 2**64 - 1):
            with self.subTest(count=count):
                sealed = seal(list(key), count, [1, 2, 3], [4])
                self.assertEqual(bytes(sealed), reference.SEAL(key, count, b"\x01\x02\x03", b"\x04"))

    def test_what_is_not_right(self):
        key, plain, seen = list(some("key")), list(some("plain", 20)), list(some("seen", 5))
        sealed = seal(key, 3, plain, seen)
        for at in range(len(sealed)):
            self.assertIsNone(unseal(key, 3, list(changed_at(sealed, at)), seen))
        self.assertIsNone(unseal(key, 4, sealed, seen))
        self.assertIsNone(unseal(list(changed_at(key, 31)), 3, sealed, seen))
        self.assertIsNone(unseal(key, 3, sealed, list(changed_at(seen, 0))))
        self.assertIsNone(unseal(key, 3, sealed, seen + [0]))
        self.assertIsNone(unseal(key, 3, sealed[:-1], seen))
        self.assertIsNone(unseal(key, 3, sealed + [0], seen))
        for size in range(16):
            self.assertIsNone(unseal(key, 3, sealed[:size], seen))
