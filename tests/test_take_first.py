"""Promise 3: in, by a first message."""

from tests import known
from tests.points import worthless_points
from tests.reference import DH, PUB, finished, make_first, make_packet
from tests.support import (
    PSK, SECRET_A, SECRET_B, EndCase, Side, Talk, call_open, call_send, call_take, changed_at, run, some, stamp_of,
)

A = PUB(SECRET_A)
B = PUB(SECRET_B)


def first_to_b(n=1, mine=1, **other):
    return make_first(SECRET_A, B, mine, some(("e", n)), stamp_of(n), **other)[0]


def marked_anew(m, to=B):
    return finished(to, m[:116])


class TakeFirstTest(EndCase):
    def test_a_known_answer(self):
        given = run([
            call_open(known.SECRET_B, known.A, known.PSK),
            call_take(known.MINE_B, known.MOMENT_B, known.FIRST)])
        self.assertEqual(given, [[0], [1, *known.SECOND]])

    def test_the_second_message_is_answered(self):
        for mine, theirs in ((0, 0), (2**32 - 1, 0x01020304), (7, 2**32 - 1)):
            talk = Talk()
            given = talk.b.take(talk.first(theirs), mine, some("f"))
            self.assertEqual(given[0], 1)
            self.assertEqual(len(given), 93)
            message = bytes(given[1:])
            self.assertEqual(message[:4], b"\x02\x00\x00\x00")
            self.assertEqual(message[4:8], mine.to_bytes(4, "little"))
            self.assertEqual(message[8:12], theirs.to_bytes(4, "little"))
            self.assertEqual(message[12:44], PUB(some("f")))
            self.assertEqual(message[76:], bytes(16))
            self.check(talk.a, talk.b)

    def test_the_last_sixteen_bytes_are_not_looked_at(self):
        m = first_to_b()
        wanted = run([call_open(SECRET_B, A, PSK), call_take(2, some("f"), m)])
        self.assertEqual(wanted[1][0], 1)
        for tail in (bytes([255] * 16), some("tail", 16), changed_at(bytes(16), 0), changed_at(bytes(16), 15)):
            given = run([call_open(SECRET_B, A, PSK), call_take(2, some("f"), m[:132] + tail)])
            self.assertEqual(given, wanted)

    def test_it_does_not_make_a_current_session(self):
        calls = [call_open(SECRET_B, A, PSK), call_take(2, some("f"), first_to_b()), call_send(b"x")]
        self.assertEqual(run(calls)[2], [-3])

    def test_an_own_handshake_stays(self):
        talk = Talk()
        second = talk.b.take(talk.first(1), 2, some("f"))[1:]
        back = talk.first(5, talk.b)
        self.assertEqual(talk.a.take(back, 6, some("g"))[0], 1)
        self.assertEqual(talk.a.take(second), [2])
        self.check(talk.a, talk.b)

    def test_a_fresh_session_that_was_there_is_forgotten(self):
        talk = Talk()
        talk.shake(1, 2)
        packet = talk.a.send(b"for the first one")[1:]
        talk.shake(3, 4)
        self.assertEqual(talk.b.take(packet), [0])
        self.assertEqual(talk.b.take(talk.a.send(b"for the second one")[1:])[0], 4)
        self.assertEqual(talk.b.take(packet), [0])
        self.check(talk.a, talk.b)

    def test_to_itself(self):
        side = Side()
        side.open(SECRET_A, A, PSK)
        second = side.take(side.begin(1, some("e"), stamp_of(1))[1:], 2, some("f"))
        self.assertEqual(second[0], 1)
        self.assertEqual(side.take(second[1:]), [2])
        self.check(side)

    def test_not_open(self):
        calls = [call_open(SECRET_B, bytes(32), PSK), call_take(2, some("f"), first_to_b())]
        self.assertEqual(run(calls), [[-2], [-3]])


class StampTest(EndCase):
    def answers_to(self, stamps):
        side = Side()
        side.open(SECRET_B, A, PSK)
        for n, stamp in enumerate(stamps):
            side.take(make_first(SECRET_A, B, n, some(("e", n)), stamp)[0], n, some(("f", n)))
        self.check(side)
        return [answer[0] for answer in side.expected[1:]]

    def test_any_if_there_is_none(self):
        for stamp in (bytes(12), bytes([255] * 12)):
            self.assertEqual(self.answers_to([stamp]), [1])

    def test_lower_same_and_above(self):
        given = self.answers_to([stamp_of(n) for n in (5, 5, 4, 0, 6, 5, 6, 7)])
        self.assertEqual(given, [1, 0, 0, 0, 1, 0, 0, 1])

    def test_the_first_byte_counts_most(self):
        low, high = bytes([1] + [255] * 11), bytes([2] + [0] * 11)
        self.assertEqual(self.answers_to([low, high, low]), [1, 1, 0])
        self.assertEqual(self.answers_to([high, low]), [1, 0])

    def test_each_byte_counts(self):
        middle = bytes([7] * 12)
        for at in range(12):
            below = middle[:at] + b"\x06" + middle[at + 1:]
            above = middle[:at] + b"\x08" + middle[at + 1:]
            with self.subTest(at=at):
                self.assertEqual(self.answers_to([middle, below, above]), [1, 0, 1])

    def test_a_wrong_message_sets_no_stamp(self):
        side = Side()
        side.open(SECRET_B, A, PSK)
        self.assertEqual(side.take(changed_at(first_to_b(9), 120), 2, some("f")), [0])
        self.assertEqual(side.take(first_to_b(1), 2, some("f"))[0], 1)
        self.check(side)


class WrongFirstTest(EndCase):
    """A line on which b has a fresh, a current and a former session, a stamp and a handshake."""

    @classmethod
    def setUpClass(cls):
        talk = Talk()
        talk.settle(11, 12)
        talk.settle(13, 14)
        talk.shake(15, 16)
        back = talk.first(17, talk.b)
        second = talk.a.take(back, 18, some("g"))[1:]
        packets = [talk.a.send(b"to the fresh one")[1:], talk.a.send(b"and more")[1:]]
        cls.side = talk.b
        cls.stamp = talk.stamps - 1
        former = talk.b.model.former
        cls.rest = [
            call_take(0, some("f"), make_packet(former.in_key, former.mine, 50, b"to the former one")),
            call_send(b"by the current one"),
            call_take(0, some("f"), packets[0]),
            call_send(b"by the one that was fresh"),
            call_take(0, some("f"), packets[1]),
            call_take(20, some("f"), first_to_b(cls.stamp + 1)),
            call_take(0, some("f"), second),
            call_send(b"by the newest one"),
        ]

    def right(self, **other):
        return first_to_b(self.stamp + 1, **other)

    def test_the_rest_of_the_line_works(self):
        given = [answer[0] for answer in run(self.side.calls + self.rest)[-8:]]
        self.assertEqual(given, [4, 64, 4, 64, 4, 1, 2, 64])

    def test_the_right_one_is_right(self):
        given = run(self.side.calls + [call_take(7, some("f"), self.right())])
        self.assertEqual(given[-1][0], 1)

    def test_length(self):
        m = self.right()
        sizes = (1, 4, 92, 116, 131, 132, 147)
        self.assert_leaves_no_trace(self.side, [m[:size] for size in sizes] + [m + b"\x00"], self.rest)

    def test_first_four_bytes(self):
        heads = (b"\x01\x01\x00\x00", b"\x01\x00\x01\x00", b"\x01\x00\x00\x01", b"\x01\x00\x00\x80")
        self.assert_leaves_no_trace(self.side, [self.right(head=head) for head in heads], self.rest)

    def test_mark(self):
        m = self.right()
        self.assert_leaves_no_trace(self.side, [changed_at(m, at) for at in range(116, 132)], self.rest)
        self.assert_leaves_no_trace(self.side, [marked_anew(m, A), m[:116] + bytes(32)], self.rest)

    def test_each_part_that_the_mark_covers(self):
        m = self.right()
        self.assert_leaves_no_trace(
            self.side, [changed_at(m, at) for at in (4, 7, 8, 39, 40, 87, 88, 115)], self.rest)

    def test_a_point_that_is_worth_nothing(self):
        wrong = [self.right(E=point, ephemeral_static=bytes(32)) for point in worthless_points()]
        self.assert_leaves_no_trace(self.side, wrong, self.rest)

    def test_another_point(self):
        wrong = [marked_anew(changed_at(self.right(), 8)), self.right(E=PUB(some("another e")))]
        self.assert_leaves_no_trace(self.side, wrong, self.rest)

    def test_who_does_not_open(self):
        m = self.right()
        wrong = [marked_anew(changed_at(m, at)) for at in (40, 71, 72, 87)]
        self.assert_leaves_no_trace(self.side, wrong, self.rest)

    def test_who_is_somebody_else(self):
        other = some("somebody else")
        made = make_first(other, B, 1, some("e"), stamp_of(self.stamp + 1))[0]
        wrong = [made, self.right(who=PUB(other)), self.right(who=changed_at(A, 31, 128)), self.right(who=B)]
        self.assert_leaves_no_trace(self.side, wrong, self.rest)

    def test_when_does_not_open(self):
        m = self.right()
        wrong = [marked_anew(changed_at(m, at)) for at in (88, 99, 100, 115)]
        wrong.append(self.right(static_static=DH(some("another"), B)))
        self.assert_leaves_no_trace(self.side, wrong, self.rest)

    def test_a_stamp_that_is_lower_or_the_same(self):
        wrong = [first_to_b(n) for n in (0, 1, self.stamp - 1, self.stamp)]
        self.assert_leaves_no_trace(self.side, wrong, self.rest)

    def test_meant_for_somebody_else(self):
        other = PUB(some("somebody else"))
        m = make_first(SECRET_A, other, 1, some("e"), stamp_of(self.stamp + 1))[0]
        self.assert_leaves_no_trace(self.side, [m, marked_anew(m)], self.rest)
