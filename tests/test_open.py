"""Promise 1: open."""

from tests.points import worthless_points
from tests.reference import PUB
from tests.support import (
    PSK, SECRET_A, SECRET_B, EndCase, Side, Talk, call_begin, call_open, call_send, call_take, run, some, stamp_of,
)

GOOD = call_open(SECRET_A, PUB(SECRET_B), PSK)
BEGIN = call_begin(1, some("e"), stamp_of(1))
TAKE = call_take(1, some("f"), b"\x01")
SEND = call_send(b"x")


class OpenTest(EndCase):
    def test_answers_zero(self):
        self.assertEqual(run([GOOD]), [[0]])

    def test_every_peer_that_is_worth_something(self):
        for peer in (b"\x02" + bytes(31), bytes([255] * 32), some("any"), PUB(SECRET_A)):
            self.assertEqual(run([call_open(SECRET_A, peer, bytes(32))]), [[0]])

    def test_worth_nothing(self):
        for peer in worthless_points():
            with self.subTest(peer=peer.hex()):
                calls = [call_open(SECRET_A, peer, PSK), BEGIN, TAKE, SEND, GOOD]
                self.assertEqual(run(calls), [[-2], [-3], [-3], [-3], [0]])

    def test_worth_nothing_where_it_was_open(self):
        bad = call_open(SECRET_A, bytes(32), PSK)
        given = run([GOOD, BEGIN, bad, BEGIN, TAKE, SEND, bad, BEGIN])
        self.assertEqual(given[0], [0])
        self.assertEqual(given[1][0], 148)
        self.assertEqual(given[2:], [[-2], [-3], [-3], [-3], [-2], [-3]])

    def test_a_failed_open_leaves_nothing_behind_for_the_next(self):
        talk = Talk()
        talk.settle()
        talk.b.open(SECRET_B, bytes(32), PSK)
        talk.b.open(SECRET_B, PUB(SECRET_A), PSK)
        self.assertEqual(talk.b.send(b"x"), [-3])
        self.assertEqual(talk.b.take(talk.a.send(b"y")[1:]), [0])
        self.check(talk.a, talk.b)


class OpenAgainTest(EndCase):
    def test_the_sessions_are_gone(self):
        talk = Talk()
        talk.settle(1, 2)
        talk.settle(3, 4)
        old = talk.a.send(b"old")[1:]
        talk.b.open(SECRET_B, PUB(SECRET_A), PSK)
        self.assertEqual(talk.b.send(b"x"), [-3])
        self.assertEqual(talk.b.take(old), [0])
        self.check(talk.a, talk.b)

    def test_the_fresh_session_is_gone(self):
        talk = Talk()
        talk.shake()
        packet = talk.a.send(b"old")[1:]
        talk.b.open(SECRET_B, PUB(SECRET_A), PSK)
        self.assertEqual(talk.b.take(packet), [0])
        self.check(talk.a, talk.b)

    def test_the_handshake_is_gone(self):
        talk = Talk()
        second = talk.b.take(talk.first(), 2, some("f"))[1:]
        talk.a.open(SECRET_A, PUB(SECRET_B), PSK)
        self.assertEqual(talk.a.take(second), [0])
        self.check(talk.a, talk.b)

    def test_the_latest_stamp_is_gone(self):
        talk = Talk()
        first = talk.first()
        self.assertEqual(talk.b.take(first, 2, some("f"))[0], 1)
        self.assertEqual(talk.b.take(first, 2, some("f")), [0])
        talk.b.open(SECRET_B, PUB(SECRET_A), PSK)
        self.assertEqual(talk.b.take(first, 2, some("f"))[0], 1)
        self.check(talk.a, talk.b)

    def test_the_keys_are_the_new_ones(self):
        other = some("another secret")
        side, twin = Side(), Side()
        side.open(SECRET_A, PUB(SECRET_B), PSK)
        side.open(other, PUB(SECRET_A), some("another psk"))
        twin.open(other, PUB(SECRET_A), some("another psk"))
        message = side.begin(1, some("e"), stamp_of(1))
        self.assertEqual(message, twin.begin(1, some("e"), stamp_of(1)))
        self.check(side, twin)
