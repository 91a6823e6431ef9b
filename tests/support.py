"""Calls put into the one list, answers taken out of it, and sides that talk to each other."""

import hashlib
import unittest

from tests.reference import PUB, Model
from twoends.desk import answers


def some(label, size=32):
    """Bytes that are the same at every run and differ from label to label."""
    return hashlib.shake_128(str(label).encode()).digest(size)


def row(octets):
    return [len(octets), *octets]


def call_open(secret, peer, psk):
    return [0, *row(secret), *row(peer), *row(psk)]


def call_begin(mine, moment, stamp):
    return [1, mine, *row(moment), *row(stamp)]


def call_take(mine, moment, m):
    return [2, mine, *row(moment), *row(m)]


def call_send(d):
    return [3, *row(d)]


def taken_apart(flat):
    """The answers of each call."""
    result = []
    at = 0
    while at < len(flat):
        size = flat[at]
        result.append(flat[at + 1:at + 1 + size])
        at += 1 + size
    if at != len(flat):
        raise ValueError("an answer is cut off")
    return result


def run(calls):
    """What the program answers to a list of calls, call by call."""
    return taken_apart(answers([number for call in calls for number in call]))


class Side:
    """One end: every call goes to the model and is noted down for the program."""

    def __init__(self):
        self.model = Model()
        self.calls = []
        self.expected = []

    def _noted(self, call, answer):
        self.calls.append(call)
        self.expected.append(answer)
        return answer

    def open(self, secret, peer, psk):
        return self._noted(call_open(secret, peer, psk), self.model.open(secret, peer, psk))

    def begin(self, mine, moment, stamp):
        return self._noted(call_begin(mine, moment, stamp), self.model.begin(mine, moment, stamp))

    def take(self, m, mine=0, moment=None):
        moment = moment or some("unused moment")
        return self._noted(call_take(mine, moment, m), self.model.take(mine, moment, bytes(m)))

    def send(self, d):
        return self._noted(call_send(d), self.model.send(bytes(d)))


SECRET_A = some("secret a")
SECRET_B = some("secret b")
PSK = some("psk")


def stamp_of(n):
    return n.to_bytes(12, "big")


class Talk:
    """Two open ends that know each other."""

    def __init__(self):
        self.a = Side()
        self.b = Side()
        self.a.open(SECRET_A, PUB(SECRET_B), PSK)
        self.b.open(SECRET_B, PUB(SECRET_A), PSK)
        self.stamps = 0

    def first(self, mine=1, one=None):
        """A first message that `one` (else a) makes, with a stamp above all before."""
        self.stamps += 1
        return (one or self.a).begin(mine, some(("e", self.stamps)), stamp_of(self.stamps))[1:]

    def shake(self, mine_a=1, mine_b=2):
        """A handshake that a begins; b's session is the fresh one, a's the current one."""
        second = self.b.take(self.first(mine_a), mine_b, some(("f", self.stamps)))[1:]
        return self.a.take(second)

    def settle(self, mine_a=1, mine_b=2):
        """A handshake, and a packet by which b's session becomes the current one."""
        self.shake(mine_a, mine_b)
        return self.b.take(self.a.send(b"hello")[1:])


class EndCase(unittest.TestCase):
    def check(self, *sides):
        """The program answers as the model did, all along the line."""
        for side in sides:
            self.assertEqual(run(side.calls), side.expected)

    def assert_leaves_no_trace(self, side, wrong, rest):
        """Each wrong message is answered by 0, and what comes then is answered as if it hadn't been there."""
        plain = run(side.calls + rest)
        at = len(side.calls)
        for m in wrong:
            with self.subTest(m=bytes(m[:16]).hex(), size=len(m)):
                call = call_take(7, some("moment of a wrong one"), m)
                given = run(side.calls + [call] + rest)
                self.assertEqual(given[at], [0])
                self.assertEqual(given[:at] + given[at + 1:], plain)


def changed_at(m, at, by=1):
    result = bytearray(m)
    result[at] ^= by
    return bytes(result)
