"""Promise 2: begin."""

from tests import known
from tests.reference import PUB, make_first
from tests.support import (
    PSK, SECRET_A, SECRET_B, EndCase, Talk, call_begin, call_open, run, some, stamp_of,
)


class BeginTest(EndCase):
    def test_a_known_message(self):
        given = run([
            call_open(known.SECRET_A, known.B, known.PSK),
            call_begin(known.MINE_A, known.MOMENT_A, known.STAMP)])
        self.assertEqual(given, [[0], [148, *known.FIRST]])

    def test_the_bytes(self):
        peer = PUB(SECRET_B)
        for mine in (0, 1, 255, 256, 0x01020304, 2**32 - 1):
            for stamp in (bytes(12), bytes([255] * 12), some("stamp", 12)):
                with self.subTest(mine=mine, stamp=stamp.hex()):
                    moment = some(("e", mine))
                    given = run([call_open(SECRET_A, peer, PSK), call_begin(mine, moment, stamp)])[1]
                    message = bytes(given[1:])
                    self.assertEqual(given[0], 148)
                    self.assertEqual(message, make_first(SECRET_A, peer, mine, moment, stamp)[0])
                    self.assertEqual(message[:8], b"\x01\x00\x00\x00" + mine.to_bytes(4, "little"))
                    self.assertEqual(message[8:40], PUB(moment))
                    self.assertEqual(message[132:], bytes(16))

    def test_a_peer_with_its_highest_bit_set_is_taken_as_it_stands(self):
        peer = PUB(SECRET_B)[:31] + bytes([PUB(SECRET_B)[31] | 128])
        given = run([call_open(SECRET_A, peer, PSK), call_begin(1, some("e"), stamp_of(1))])[1]
        self.assertEqual(bytes(given[1:]), make_first(SECRET_A, peer, 1, some("e"), stamp_of(1))[0])

    def test_not_open(self):
        given = run([call_open(SECRET_A, bytes(32), PSK), call_begin(1, some("e"), stamp_of(1))])
        self.assertEqual(given, [[-2], [-3]])

    def test_stamps_need_not_rise_here(self):
        one = call_begin(1, some("e"), stamp_of(9))
        two = call_begin(1, some("e"), stamp_of(3))
        given = run([call_open(SECRET_A, PUB(SECRET_B), PSK), one, two, one])
        self.assertEqual(given[1], given[3])
        self.assertEqual(given[2][0], 148)

    def test_a_second_begin_forgets_the_first_one(self):
        for mine in (1, 5):
            with self.subTest(mine=mine):
                talk = Talk()
                old = talk.b.take(talk.first(1), 2, some("f"))[1:]
                new = talk.b.take(talk.first(mine), 3, some("g"))[1:]
                self.assertEqual(talk.a.take(old), [0])
                self.assertEqual(talk.a.take(new), [2])
                self.assertEqual(talk.a.take(old), [0])
                self.check(talk.a, talk.b)

    def test_the_sessions_stay(self):
        talk = Talk()
        talk.settle()
        packet = talk.b.send(b"still there")[1:]
        talk.first(9)
        self.assertEqual(talk.a.take(packet)[0], 4)
        self.assertEqual(talk.a.send(b"here too")[0], 48)
        self.check(talk.a, talk.b)
