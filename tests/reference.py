"""A second writing of the document, over bytes, that the program is held against.

It shares no code with the program: BLAKE2s and HMAC are Python's own, the rest is written anew.
"""

import hashlib
import hmac as python_hmac
import struct

P25519 = 2**255 - 19


def HASH(data):
    return hashlib.blake2s(data).digest()


def MAC(key, data):
    return hashlib.blake2s(data, key=key, digest_size=16).digest()


def HMAC(key, data):
    return python_hmac.new(key, data, hashlib.blake2s).digest()


def KDF(n, key, data):
    t0 = HMAC(key, data)
    t1 = HMAC(t0, b"\x01")
    t2 = HMAC(t0, t1 + b"\x02")
    t3 = HMAC(t0, t2 + b"\x03")
    return [t1, t2, t3][:n]


def DH(s, p):
    scalar = bytearray(s)
    scalar[0] &= 248
    scalar[31] = scalar[31] & 127 | 64
    k = int.from_bytes(scalar, "little")
    u = int.from_bytes(p, "little") % 2**255 % P25519
    low, high = (1, 0), (u, 1)
    for bit in bin(k)[2:].zfill(255):
        total = _differential_sum(low, high, u)
        if bit == "1":
            low, high = total, _double(high)
        else:
            low, high = _double(low), total
    return (low[0] * pow(low[1], P25519 - 2, P25519) % P25519).to_bytes(32, "little")


def _double(point):
    x, z = point
    square = (x * x - z * z) % P25519
    return square * square % P25519, 4 * x * z * (x * x + 486662 * x * z + z * z) % P25519


def _differential_sum(one, other, difference):
    (x1, z1), (x2, z2) = one, other
    return 1 * (x1 * x2 - z1 * z2)**2 % P25519, difference * (x1 * z2 - z1 * x2)**2 % P25519


def PUB(s):
    return DH(s, (9).to_bytes(32, "little"))


def _rotate(value, places):
    return (value << places | value >> (32 - places)) & 0xFFFFFFFF


def chacha_block(key, counter, nonce):
    state = list(struct.unpack("<4I8I4I", b"expand 32-byte k" + key + struct.pack("<I", counter) + nonce))
    x = state[:]
    for _ in range(10):
        for i in range(8):
            turn = i // 4
            a, b, c, d = i % 4, 4 + (i + turn) % 4, 8 + (i + 2 * turn) % 4, 12 + (i + 3 * turn) % 4
            x[a] = (x[a] + x[b]) & 0xFFFFFFFF
            x[d] = _rotate(x[d] ^ x[a], 16)
            x[c] = (x[c] + x[d]) & 0xFFFFFFFF
            x[b] = _rotate(x[b] ^ x[c], 12)
            x[a] = (x[a] + x[b]) & 0xFFFFFFFF
            x[d] = _rotate(x[d] ^ x[a], 8)
            x[c] = (x[c] + x[d]) & 0xFFFFFFFF
            x[b] = _rotate(x[b] ^ x[c], 7)
    return struct.pack("<16I", *[(p + q) & 0xFFFFFFFF for p, q in zip(state, x)])


def chacha(key, nonce, data):
    blocks = range((len(data) + 63) // 64)
    stream = b"".join(chacha_block(key, 1 + i, nonce) for i in blocks)
    return bytes(p ^ q for p, q in zip(data, stream))


def poly1305(key, data):
    r = int.from_bytes(key[:16], "little") & 0x0FFFFFFC0FFFFFFC0FFFFFFC0FFFFFFF
    total = 0
    for i in range(0, len(data), 16):
        total = (total + int.from_bytes(data[i:i + 16] + b"\x01", "little")) * r % (2**130 - 5)
    return ((total + int.from_bytes(key[16:], "little")) % 2**128).to_bytes(16, "little")


def padded(data):
    return data + bytes(-len(data) % 16)


def aead_tag(key, nonce, covered, seen):
    lengths = struct.pack("<QQ", len(seen), len(covered))
    return poly1305(chacha_block(key, 0, nonce)[:32], padded(seen) + padded(covered) + lengths)


def SEAL(k, c, b, a):
    nonce = struct.pack("<IQ", 0, c)
    covered = chacha(k, nonce, b)
    return covered + aead_tag(k, nonce, covered, a)


def OPEN(k, c, b, a):
    nonce = struct.pack("<IQ", 0, c)
    if aead_tag(k, nonce, b[:-16], a) != b[-16:]:
        return None
    return chacha(k, nonce, b[:-16])


def number(n):
    return struct.pack("<I", n)


def mark(to, before):
    return MAC(HASH(b"mac1----" + to), before)


def finished(to, before):
    return before + mark(to, before) + bytes(16)


def start_towards(r):
    c = HASH(b"Noise_IKpsk2_25519_ChaChaPoly_BLAKE2s")
    return c, HASH(HASH(c + b"WireGuard v1 zx2c4 Jason@zx2c4.com") + r)


def make_first(secret, peer, mine, moment, stamp, **other):
    """The message, C and H. `other` puts something else in the place of a part."""
    c, h = start_towards(peer)
    e = other.get("E", PUB(moment))
    c, = KDF(1, c, e)
    h = HASH(h + e)
    c, k = KDF(2, c, other.get("ephemeral_static", DH(moment, peer)))
    a = SEAL(k, 0, other.get("who", PUB(secret)), h)
    a = other.get("A", a)
    h = HASH(h + a)
    c, k = KDF(2, c, other.get("static_static", DH(secret, peer)))
    b = SEAL(k, 0, stamp, h)
    b = other.get("B", b)
    h = HASH(h + b)
    before = other.get("head", b"\x01\x00\x00\x00") + number(mine) + e + a + b
    return finished(peer, before), c, h


def make_second(peer, psk, mine, theirs, moment, e, c, h, **other):
    """The message and the two keys T1, T2."""
    f = other.get("F", PUB(moment))
    c, = KDF(1, c, f)
    h = HASH(h + f)
    c, = KDF(1, c, other.get("with_e", DH(moment, e)))
    c, = KDF(1, c, other.get("with_static", DH(moment, peer)))
    c, t, k = KDF(3, c, psk)
    h = HASH(h + t)
    z = other.get("Z", SEAL(k, 0, b"", h))
    before = other.get("head", b"\x02\x00\x00\x00") + number(mine) + number(theirs) + f + z
    return finished(peer, before), KDF(2, c, b"")


def make_packet(key, to, n, d, head=b"\x04\x00\x00\x00"):
    return head + number(to) + struct.pack("<Q", n) + SEAL(key, n, padded(d), b"")


class Session:
    def __init__(self, mine, theirs, out_key, in_key):
        self.mine, self.theirs = mine, theirs
        self.out_key, self.in_key = out_key, in_key
        self.next, self.got = 0, set()

    def new(self, n):
        return n < 2**60 and n not in self.got and not (self.got and max(self.got) >= n + 128)


class Model:
    """An end, by the document's words; each call answers a list of numbers."""

    def __init__(self):
        self.is_open = False

    def open(self, secret, peer, psk):
        self.__init__()
        if not any(DH(secret, peer)):
            return [-2]
        self.is_open = True
        self.S, self.P, self.Q, self.own = secret, peer, psk, PUB(secret)
        self.stamp = self.handshake = self.fresh = self.current = self.former = None
        return [0]

    def begin(self, mine, moment, stamp):
        if not self.is_open:
            return [-3]
        message, c, h = make_first(self.S, self.P, mine, moment, stamp)
        self.handshake = (mine, moment, c, h)
        return [148, *message]

    def take(self, mine, moment, m):
        if not self.is_open:
            return [-3]
        if m[:1] == b"\x01":
            return self._first(mine, moment, m)
        if m[:1] == b"\x02":
            return self._second(m)
        return self._packet(m)

    def _first(self, mine, moment, m):
        if len(m) != 148 or m[:4] != b"\x01\x00\x00\x00" or m[116:132] != mark(self.own, m[:116]):
            return [0]
        e, a, b = m[8:40], m[40:88], m[88:116]
        if not any(DH(self.S, e)):
            return [0]
        c, h = start_towards(self.own)
        c, = KDF(1, c, e)
        h = HASH(h + e)
        c, k = KDF(2, c, DH(self.S, e))
        if OPEN(k, 0, a, h) != self.P:
            return [0]
        h = HASH(h + a)
        c, k = KDF(2, c, DH(self.S, self.P))
        stamp = OPEN(k, 0, b, h)
        if stamp is None or (self.stamp is not None and stamp <= self.stamp) or not any(DH(moment, e)):
            return [0]
        h = HASH(h + b)
        theirs, = struct.unpack("<I", m[4:8])
        message, (t1, t2) = make_second(self.P, self.Q, mine, theirs, moment, e, c, h)
        self.stamp = stamp
        self.fresh = Session(mine, theirs, t2, t1)
        return [1, *message]

    def _second(self, m):
        if self.handshake is None or len(m) != 92 or m[:4] != b"\x02\x00\x00\x00":
            return [0]
        mine, moment, c, h = self.handshake
        f, z = m[12:44], m[44:60]
        if m[60:76] != mark(self.own, m[:60]) or m[8:12] != number(mine):
            return [0]
        if not any(DH(moment, f)) or not any(DH(self.S, f)):
            return [0]
        c, = KDF(1, c, f)
        h = HASH(h + f)
        c, = KDF(1, c, DH(moment, f))
        c, = KDF(1, c, DH(self.S, f))
        c, t, k = KDF(3, c, self.Q)
        if OPEN(k, 0, z, HASH(h + t)) is None:
            return [0]
        t1, t2 = KDF(2, c, b"")
        theirs, = struct.unpack("<I", m[4:8])
        self.former, self.current = self.current, Session(mine, theirs, t1, t2)
        self.fresh = self.handshake = None
        return [2]

    def _packet(self, m):
        if len(m) < 32 or len(m) % 16 or m[:4] != b"\x04\x00\x00\x00":
            return [0]
        mine, n = struct.unpack("<IQ", m[4:16])
        for session in (self.fresh, self.current, self.former):
            if session is None or session.mine != mine or not session.new(n):
                continue
            d = OPEN(session.in_key, n, m[16:], b"")
            if d is None:
                continue
            session.got.add(n)
            if session is self.fresh:
                self.former, self.current, self.fresh = self.current, session, None
            return [4, *d]
        return [0]

    def send(self, d):
        if not self.is_open or self.current is None or self.current.next == 2**60:
            return [-3]
        session = self.current
        packet = make_packet(session.out_key, session.theirs, session.next, d)
        session.next += 1
        return [len(packet), *packet]
