"""Promise 4: send."""

from tests.reference import PUB, make_packet
from tests.support import PSK, SECRET_A, SECRET_B, EndCase, Talk, call_begin, call_open, call_send, run, some, stamp_of
from twoends.end import End
from twoends.identity import identity_with
from twoends.line import Line
from twoends.session import Session

B = PUB(SECRET_B)


class SendTest(EndCase):
    def test_packets_of_all_lengths_with_their_numbers(self):
        talk = Talk()
        talk.shake(1, 0x01020304)
        key = talk.a.model.current.out_key
        for n, size in enumerate((0, 1, 15, 16, 17, 31, 32, 33, 47, 48, 49, 1000)):
            d = some("d", size)
            given = talk.a.send(d)
            filled = (size + 15) // 16 * 16
            self.assertEqual(given[0], 32 + filled)
            self.assertEqual(len(given), 33 + filled)
            packet = bytes(given[1:])
            self.assertEqual(packet[:16], b"\x04\x00\x00\x00\x04\x03\x02\x01" + n.to_bytes(8, "little"))
            self.assertEqual(packet, make_packet(key, 0x01020304, n, d))
            self.assertEqual(talk.b.take(packet), [4, *d, *bytes(filled - size)])
        self.check(talk.a, talk.b)

    def test_more_numbers_than_a_byte_holds(self):
        talk = Talk()
        talk.shake()
        for n in range(260):
            packet = bytes(talk.a.send(b"")[1:])
            self.assertEqual(packet[8:16], n.to_bytes(8, "little"))
        self.check(talk.a)

    def test_both_ends_count_by_themselves(self):
        talk = Talk()
        talk.settle()
        for n in range(3):
            self.assertEqual(talk.b.send(b"x")[9], n)
            self.assertEqual(talk.a.send(b"x")[9], n + 1)
        self.check(talk.a, talk.b)

    def test_a_new_session_counts_from_zero(self):
        talk = Talk()
        talk.settle(1, 2)
        self.assertEqual(talk.a.send(b"x")[9], 1)
        talk.shake(3, 4)
        self.assertEqual([talk.a.send(b"x")[9] for turn in range(3)], [0, 1, 2])
        self.check(talk.a, talk.b)

    def test_not_open(self):
        given = run([call_open(SECRET_A, bytes(32), PSK), call_send(b""), call_send(b"x")])
        self.assertEqual(given, [[-2], [-3], [-3]])

    def test_no_current_session(self):
        given = run([
            call_open(SECRET_A, B, PSK), call_send(b""), call_begin(1, some("e"), stamp_of(1)), call_send(b"x")])
        self.assertEqual([given[1], given[3]], [[-3], [-3]])

    def test_only_a_fresh_session(self):
        talk = Talk()
        talk.shake()
        self.assertEqual(talk.b.send(b"x"), [-3])
        self.assertEqual(talk.b.take(talk.a.send(b"y")[1:])[0], 4)
        self.assertEqual(talk.b.send(b"x")[0], 48)
        self.check(talk.a, talk.b)

    def test_a_refusal_uses_no_number(self):
        talk = Talk()
        talk.b.take(talk.first(), 2, some("f"))
        self.assertEqual(talk.b.send(b"x"), [-3])
        session = talk.b.model.fresh
        talk.b.take(make_packet(session.in_key, 2, 0, b""))
        self.assertEqual(talk.b.send(b"x")[9], 0)
        self.check(talk.b)


class NumbersEndTest(EndCase):
    """Numbers that no list of calls is long enough to reach."""

    def test_the_last_number(self):
        end = End(identity_with(list(SECRET_A), list(B), list(PSK)))
        end.current = Session(1, 2, list(some("out")), list(some("in")))
        end.current.next_number = 2**60 - 1
        wanted = make_packet(some("out"), 2, 2**60 - 1, b"last")
        self.assertEqual(end.send(list(b"last")), [48, *wanted])
        self.assertEqual(end.send(list(b"over")), [-3])
        self.assertEqual(end.send([]), [-3])
        self.assertEqual(end.current.next_number, 2**60)


class LengthTest(EndCase):
    """Lengths that no list of calls is long enough to have: -1 comes ahead of -3."""

    def test_send(self):
        line = Line()
        self.assertEqual(line.send([0] * 65537), [-1])
        self.assertEqual(line.send([0] * 65536), [-3])
        line.set_up(list(SECRET_A), list(B), list(PSK))
        self.assertEqual(line.send([0] * 65537), [-1])
        self.assertEqual(line.send([0] * 65536), [-3])
        line.end.current = Session(1, 2, list(some("out")), list(some("in")))
        self.assertEqual(line.send([0] * 65537), [-1])
        given = line.send([0] * 65536)
        self.assertEqual((given[0], len(given)), (65568, 65569))
        self.assertEqual(line.end.current.next_number, 1)

    def test_take(self):
        line = Line()
        moment = list(some("f"))
        self.assertEqual(line.take(0, moment, [4] * 65569), [-1])
        self.assertEqual(line.take(0, moment, [4] * 65568), [-3])
        line.set_up(list(SECRET_A), list(B), list(PSK))
        self.assertEqual(line.take(0, moment, [4] * 65569), [-1])
        self.assertEqual(line.take(0, moment, [4] * 65568), [0])
        line.end.current = Session(1, 2, list(some("out")), list(some("in")))
        longest = make_packet(some("in"), 1, 0, bytes(65536))
        self.assertEqual(len(longest), 65568)
        self.assertEqual(line.take(0, moment, list(longest)), [4] + [0] * 65536)
