"""Promise 3: in, by a second message."""

from tests import known
from tests.points import worthless_points
from tests.reference import DH, PUB, finished, make_packet, make_second
from tests.support import (
    PSK, SECRET_A, SECRET_B, EndCase, Side, Talk, call_begin, call_open, call_send, call_take, changed_at, run, some,
    stamp_of,
)

A = PUB(SECRET_A)
B = PUB(SECRET_B)


def marked_anew(m, to=A):
    return finished(to, m[:60])


class TakeSecondTest(EndCase):
    def test_known_messages(self):
        given = run([
            call_open(known.SECRET_A, known.B, known.PSK),
            call_begin(known.MINE_A, known.MOMENT_A, known.STAMP),
            call_take(0, some("f"), known.SECOND),
            call_send(known.PLAIN)])
        self.assertEqual(given[2:], [[2], [48, *known.PACKET]])

    def test_the_session_is_the_current_one(self):
        for mine_a, mine_b in ((1, 2), (0, 0), (2**32 - 1, 0x01020304)):
            talk = Talk()
            self.assertEqual(talk.shake(mine_a, mine_b), [2])
            packet = bytes(talk.a.send(b"there")[1:])
            self.assertEqual(packet[:16], b"\x04\x00\x00\x00" + mine_b.to_bytes(4, "little") + bytes(8))
            self.assertEqual(talk.b.take(packet), [4, *b"there".ljust(16, b"\x00")])
            self.assertEqual(talk.a.take(talk.b.send(b"back")[1:]), [4, *b"back".ljust(16, b"\x00")])
            self.check(talk.a, talk.b)

    def test_no_handshake_was_begun(self):
        side = Side()
        side.open(SECRET_A, B, PSK)
        talk = Talk()
        second = talk.b.take(talk.first(), 2, some("f"))[1:]
        self.assertEqual(side.take(second), [0])
        self.assertEqual(side.take(known.SECOND), [0])
        self.check(side)

    def test_there_is_no_handshake_afterwards(self):
        talk = Talk()
        second = talk.b.take(talk.first(), 2, some("f"))[1:]
        self.assertEqual(talk.a.take(second), [2])
        packet = talk.a.send(b"one")
        self.assertEqual(talk.a.take(second), [0])
        self.assertNotEqual(talk.a.send(b"one"), packet)
        self.check(talk.a)

    def test_the_last_sixteen_bytes_are_not_looked_at(self):
        begun = [call_open(known.SECRET_A, known.B, known.PSK),
                 call_begin(known.MINE_A, known.MOMENT_A, known.STAMP)]
        for tail in (bytes([255] * 16), changed_at(bytes(16), 0), changed_at(bytes(16), 15)):
            given = run(begun + [call_take(0, some("f"), known.SECOND[:76] + tail), call_send(known.PLAIN)])
            self.assertEqual(given[2:], [[2], [48, *known.PACKET]])

    def test_not_open(self):
        calls = [call_open(SECRET_A, bytes(32), PSK), call_take(0, some("f"), known.SECOND)]
        self.assertEqual(run(calls), [[-2], [-3]])

    def test_the_current_one_is_the_former_one_and_none_is_fresh(self):
        talk = Talk()
        talk.settle(1, 2)
        to_current = talk.b.send(b"to the current one")[1:]
        again = talk.b.send(b"once more")[1:]
        back = talk.first(5, talk.b)
        self.assertEqual(talk.a.take(back, 6, some("g"))[0], 1)
        fresh = talk.a.model.fresh
        to_fresh = make_packet(fresh.in_key, fresh.mine, 0, b"to the fresh one")
        self.assertEqual(talk.shake(3, 4), [2])
        self.assertEqual(talk.a.take(to_fresh), [0])
        self.assertEqual(talk.a.take(to_current)[0], 4)
        self.assertEqual(bytes(talk.a.send(b"x")[1:])[4:8], b"\x04\x00\x00\x00")
        talk.shake(7, 8)
        self.assertEqual(talk.a.take(again), [0])
        self.check(talk.a, talk.b)


class WrongSecondTest(EndCase):
    """A line on which a has a fresh, a current and a former session and a handshake."""

    @classmethod
    def setUpClass(cls):
        talk = Talk()
        talk.settle(11, 12)
        talk.settle(13, 14)
        talk.a.take(talk.first(15, talk.b), 16, some("g"))
        first = bytes(talk.first(17))
        cls.handshake = talk.a.model.handshake
        cls.moment = some("the f")
        cls.right = bytes(talk.b.take(first, 18, cls.moment)[1:])
        cls.side = talk.a
        model = talk.a.model
        packets = [
            make_packet(place.in_key, place.mine, 60, b"to a place")
            for place in (model.former, model.current, model.fresh)]
        cls.rest = [call_take(0, some("f"), packet) for packet in packets]
        cls.rest += [call_send(b"x"), call_take(0, some("f"), cls.right), call_send(b"y")]

    def made(self, **other):
        mine, moment, c, h = self.handshake
        psk = other.pop("psk", PSK)
        theirs = other.pop("theirs", mine)
        return make_second(A, psk, 18, theirs, self.moment, PUB(moment), c, h, **other)[0]

    def test_the_rest_of_the_line_works(self):
        given = [answer[0] for answer in run(self.side.calls + self.rest)[-6:]]
        self.assertEqual(given, [4, 4, 4, 48, 2, 48])

    def test_the_right_one_is_right(self):
        self.assertEqual(self.made(), self.right)

    def test_length(self):
        sizes = (1, 4, 60, 75, 76, 91)
        wrong = [self.right[:size] for size in sizes] + [self.right + b"\x00", self.right + bytes(56)]
        self.assert_leaves_no_trace(self.side, wrong, self.rest)

    def test_first_four_bytes(self):
        heads = (b"\x02\x01\x00\x00", b"\x02\x00\x01\x00", b"\x02\x00\x00\x01", b"\x02\x00\x00\x80")
        self.assert_leaves_no_trace(self.side, [self.made(head=head) for head in heads], self.rest)

    def test_mark(self):
        wrong = [changed_at(self.right, at) for at in range(60, 76)]
        wrong += [marked_anew(self.right, B), self.right[:60] + bytes(32)]
        self.assert_leaves_no_trace(self.side, wrong, self.rest)

    def test_each_part_that_the_mark_covers(self):
        wrong = [changed_at(self.right, at) for at in (4, 7, 8, 11, 12, 43, 44, 59)]
        self.assert_leaves_no_trace(self.side, wrong, self.rest)

    def test_number_of_the_handshake(self):
        wrong = [self.made(theirs=theirs) for theirs in (0, 16, 18, 17 + 2**8, 17 + 2**16, 17 + 2**24)]
        self.assert_leaves_no_trace(self.side, wrong, self.rest)

    def test_a_point_that_is_worth_nothing(self):
        nothing = bytes(32)
        wrong = [self.made(F=point, with_e=nothing, with_static=nothing) for point in worthless_points()]
        self.assert_leaves_no_trace(self.side, wrong, self.rest)

    def test_another_point(self):
        wrong = [marked_anew(changed_at(self.right, 12)), self.made(F=PUB(some("another f")))]
        self.assert_leaves_no_trace(self.side, wrong, self.rest)

    def test_proof_does_not_open(self):
        wrong = [marked_anew(changed_at(self.right, at)) for at in range(44, 60)]
        self.assert_leaves_no_trace(self.side, wrong, self.rest)

    def test_made_with_something_else(self):
        another = some("another")
        wrong = [self.made(psk=another), self.made(with_e=another), self.made(with_static=DH(self.moment, B))]
        self.assert_leaves_no_trace(self.side, wrong, self.rest)


class OtherPskTest(EndCase):
    def test_ends_that_know_different_ones_come_to_no_session(self):
        a, b = Side(), Side()
        a.open(SECRET_A, B, PSK)
        b.open(SECRET_B, A, some("another psk"))
        second = b.take(a.begin(1, some("e"), stamp_of(1))[1:], 2, some("f"))
        self.assertEqual(second[0], 1)
        self.assertEqual(a.take(second[1:]), [0])
        self.assertEqual(a.send(b"x"), [-3])
        self.check(a, b)
