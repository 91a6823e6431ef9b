"""Promise 3: in, by a packet."""

from tests import known
from tests.reference import PUB, SEAL, make_first, make_packet, padded
from tests.support import (
    PSK, SECRET_A, SECRET_B, EndCase, Side, Talk, call_begin, call_open, call_send, call_take, changed_at, run, some,
    stamp_of,
)

A = PUB(SECRET_A)
B = PUB(SECRET_B)


class PacketTest(EndCase):
    """Single packets of which each one is made by hand, for b's session."""

    def setUp(self):
        self.talk = Talk()
        self.talk.settle(1, 2)
        self.b = self.talk.b

    def packet(self, n, d=b"what's in it", session=None, **other):
        session = session or self.b.model.current
        return make_packet(session.in_key, session.mine, n, d, **other)

    def taken(self, n):
        return self.b.take(self.packet(n))[0]

    def test_what_is_in_it_is_answered_with_its_zeros(self):
        for n, size in enumerate((0, 1, 15, 16, 17, 31, 32, 33, 63, 64, 65, 1000), start=1):
            d = some("d", size)
            self.assertEqual(self.b.take(self.packet(n, d)), [4, *padded(d)])
        self.check(self.b)

    def test_twice(self):
        self.assertEqual([self.taken(n) for n in (5, 5, 6, 5, 6, 4, 4)], [4, 0, 4, 0, 0, 4, 0])
        self.check(self.b)

    def test_below_the_greatest(self):
        self.assertEqual(self.taken(1000), 4)
        for below, wanted in ((126, 4), (127, 4), (128, 0), (129, 0), (127, 0), (1000, 0), (1, 4)):
            with self.subTest(below=below):
                self.assertEqual(self.taken(1000 - below), wanted)
        self.assertEqual([self.taken(n) for n in (1001, 873, 875, 1128, 1000, 1001, 1002)], [4, 0, 4, 4, 0, 0, 4])
        self.check(self.b)

    def test_a_lower_one_does_not_lower_the_greatest(self):
        self.assertEqual([self.taken(n) for n in (300, 200, 172, 173)], [4, 4, 0, 4])
        self.check(self.b)

    def test_the_first_one_may_be_any(self):
        self.talk.shake(3, 4)
        fresh = self.b.model.fresh
        self.assertEqual(self.b.take(self.packet(2**59, session=fresh))[0], 4)
        self.assertEqual(self.b.take(self.packet(0, session=fresh))[0], 0)
        self.check(self.b)

    def test_none_got_yet_and_the_number_zero(self):
        self.talk.shake(3, 4)
        fresh = self.b.model.fresh
        self.assertEqual([self.b.take(self.packet(0, session=fresh))[0] for turn in range(2)], [4, 0])
        self.check(self.b)

    def test_at_two_to_the_power_sixty(self):
        wrong = (2**60, 2**60 + 1, 2**61, 2**63, 2**64 - 1)
        self.assertEqual([self.taken(n) for n in wrong], [0] * 5)
        self.assertEqual([self.taken(n) for n in (2**60 - 1, 2**60, 2**60 - 1)], [4, 0, 0])
        self.assertEqual([self.taken(2**60 - 1 - below) for below in (129, 128, 127, 1)], [0, 0, 4, 4])
        self.check(self.b)

    def test_numbers_with_all_their_bytes(self):
        numbers = [n + 1 for n in range(3)] + [2**(8 * place) for place in range(1, 8)]
        self.assertEqual([self.taken(n) for n in numbers], [4] * len(numbers))
        self.check(self.b)

    def test_sessions_have_their_own_numbers(self):
        self.assertEqual(self.taken(500), 4)
        self.talk.settle(3, 4)
        self.assertEqual(self.taken(1), 4)
        former = self.b.model.former
        self.assertEqual(self.b.take(self.packet(1, session=former))[0], 0)
        self.assertEqual(self.b.take(self.packet(499, session=former))[0], 4)
        self.check(self.b)

    def test_an_own_packet_does_not_open(self):
        packet = self.b.send(b"mine")[1:]
        back = [*packet[:4], 2, 0, 0, 0, *packet[8:]]
        self.assertEqual(self.b.take(packet), [0])
        self.assertEqual(self.b.take(back), [0])
        self.check(self.b)

    def test_not_open(self):
        calls = [call_open(SECRET_B, bytes(32), PSK)]
        calls += [call_take(0, some("f"), m) for m in (b"", known.PACKET, b"\x09" * 40)]
        self.assertEqual(run(calls), [[-2], [-3], [-3], [-3]])

    def test_no_session(self):
        calls = [call_open(SECRET_B, A, PSK)]
        calls += [call_take(0, some("f"), m) for m in (b"", known.PACKET, b"\x09" * 40)]
        self.assertEqual(run(calls), [[0], [0], [0], [0]])


class WrongPacketTest(EndCase):
    """A line on which b has a fresh, a current and a former session."""

    @classmethod
    def setUpClass(cls):
        talk = Talk()
        talk.settle(11, 12)
        talk.settle(13, 14)
        talk.shake(15, 16)
        cls.side = talk.b
        model = talk.b.model
        cls.places = (model.fresh, model.current, model.former)
        cls.right = [make_packet(place.in_key, place.mine, 9, b"x" * 40) for place in cls.places]
        rest = [make_packet(place.in_key, place.mine, 9, b"x" * 40) for place in reversed(cls.places)]
        cls.rest = [call_send(b"before")] + [call_take(0, some("f"), m) for m in rest] + [call_send(b"after")]

    def assert_wrong(self, wrong):
        self.assert_leaves_no_trace(self.side, wrong, self.rest)

    def test_the_rest_of_the_line_works(self):
        given = [answer[0] for answer in run(self.side.calls + self.rest)[-5:]]
        self.assertEqual(given, [48, 4, 4, 4, 48])

    def test_length(self):
        for m in self.right:
            sizes = (0, 1, 4, 8, 15, 16, 17, 31, 32, 33, 48, 64, len(m) - 16, len(m) - 1)
            self.assert_wrong([m[:size] for size in sizes] + [m + b"\x00", m + bytes(16)])

    def test_an_empty_packet_that_is_cut_or_grown(self):
        for place in self.places:
            m = make_packet(place.in_key, place.mine, 8, b"")
            self.assertEqual(len(m), 32)
            self.assert_wrong([m[:16], m[:31], m + b"\x00", m + bytes(16)])

    def test_sealed_rightly_but_no_multiple_of_sixteen(self):
        place = self.places[1]
        for size in (1, 15, 17):
            m = make_packet(place.in_key, place.mine, 8, b"")[:16]
            self.assert_wrong([m + SEAL(place.in_key, 8, b"x" * size, b"")])

    def test_first_four_bytes(self):
        place = self.places[1]
        heads = [b"\x04\x01\x00\x00", b"\x04\x00\x01\x00", b"\x04\x00\x00\x01"]
        heads += [bytes([kind, 0, 0, 0]) for kind in (0, 1, 2, 3, 5, 132, 255)]
        self.assert_wrong([make_packet(place.in_key, place.mine, 8, b"x", head=head) for head in heads])

    def test_my_number(self):
        for place in self.places:
            for mine in (0, place.theirs, place.mine ^ 1, place.mine + 2**8, place.mine + 2**16, place.mine + 2**24):
                self.assert_wrong([make_packet(place.in_key, mine, 9, b"x")])

    def test_a_number_of_another_session(self):
        for place in self.places:
            others = [other for other in self.places if other is not place]
            self.assert_wrong([make_packet(other.in_key, place.mine, 9, b"x") for other in others])

    def test_number(self):
        for m in self.right:
            self.assert_wrong([changed_at(m, at) for at in range(8, 16)])

    def test_what_is_sealed(self):
        for m in self.right:
            self.assert_wrong([changed_at(m, at) for at in (16, 40, len(m) - 17, len(m) - 16, len(m) - 1)])
            self.assert_wrong([changed_at(m, len(m) - 1, 128)])

    def test_numbers_that_are_not_new(self):
        for place in self.places:
            self.assert_wrong([make_packet(place.in_key, place.mine, n, b"x") for n in (2**60, 2**64 - 1)])
        for place in self.places[1:]:
            self.assert_wrong([make_packet(place.in_key, place.mine, 0, b"x")])


class PlacesTest(EndCase):
    """Which session is where: the number a packet goes to, and which packets are taken, tell it."""

    def packet(self, session, n):
        return make_packet(session.in_key, session.mine, n, b"?")

    def sends_to(self, side):
        answer = side.send(b"to whom?")
        return None if answer == [-3] else int.from_bytes(bytes(answer[5:9]), "little")

    def test_fresh_becomes_current(self):
        talk = Talk()
        talk.shake(1, 2)
        self.assertIsNone(self.sends_to(talk.b))
        first = talk.b.model.fresh
        self.assertEqual(talk.b.take(self.packet(first, 0))[0], 4)
        self.assertEqual(self.sends_to(talk.b), 1)
        talk.shake(3, 4)
        second = talk.b.model.fresh
        self.assertEqual(self.sends_to(talk.b), 1)
        self.assertEqual(talk.b.take(self.packet(first, 1))[0], 4)
        self.assertEqual(self.sends_to(talk.b), 1)
        self.assertEqual(talk.b.take(self.packet(second, 0))[0], 4)
        self.assertEqual(self.sends_to(talk.b), 3)
        self.assertEqual(talk.b.take(self.packet(first, 2))[0], 4)
        self.assertEqual(self.sends_to(talk.b), 3)
        self.check(talk.a, talk.b)

    def test_a_second_packet_for_it_moves_nothing_more(self):
        talk = Talk()
        talk.settle(1, 2)
        first = talk.b.model.current
        talk.shake(3, 4)
        second = talk.b.model.fresh
        self.assertEqual([talk.b.take(self.packet(second, n))[0] for n in (0, 1, 2)], [4, 4, 4])
        self.assertEqual(talk.b.take(self.packet(first, 7))[0], 4)
        self.check(talk.a, talk.b)

    def test_the_former_one_is_forgotten_when_another_becomes_it(self):
        talk = Talk()
        sessions = []
        for turn in range(3):
            talk.settle(1, 2)
            sessions.append(talk.b.model.current)
        self.assertEqual([talk.b.take(self.packet(one, 5))[0] for one in sessions], [0, 4, 4])
        self.check(talk.a, talk.b)

    def test_a_packet_for_the_former_one_leaves_it_there(self):
        talk = Talk()
        talk.settle(1, 2)
        first = talk.b.model.current
        talk.settle(3, 4)
        self.assertEqual([talk.b.take(self.packet(first, n))[0] for n in (5, 5, 6)], [4, 0, 4])
        self.assertEqual(self.sends_to(talk.b), 3)
        self.check(talk.a, talk.b)

    def test_all_three_with_one_number(self):
        talk = Talk()
        talk.settle(1, 2)
        talk.settle(1, 2)
        talk.shake(1, 2)
        model = talk.b.model
        former, current, fresh = model.former, model.current, model.fresh
        self.assertEqual([talk.b.take(self.packet(one, 5))[0] for one in (former, current)], [4, 4])
        self.assertIsNotNone(model.fresh)
        self.assertEqual(talk.b.take(self.packet(fresh, 5))[0], 4)
        self.assertEqual([talk.b.take(self.packet(one, 6))[0] for one in (former, current, fresh)], [0, 4, 4])
        self.check(talk.a, talk.b)

    def like_sessions(self):
        """A side whose current session (to 1) and fresh one (to 3) have the same keys and my number.

        The keys hang on the moments, the secrets and psk alone, not on the stamp or a first message's number.
        """
        side = Side()
        side.open(SECRET_B, A, PSK)
        self.assertEqual(side.take(self.first(1, 1), 2, some("f"))[0], 1)
        self.assertEqual(side.take(self.packet(side.model.fresh, 0))[0], 4)
        self.assertEqual(side.take(self.first(3, 2), 2, some("f"))[0], 1)
        self.assertEqual(side.model.fresh.in_key, side.model.current.in_key)
        return side

    def first(self, mine, stamp, moment="e"):
        return make_first(SECRET_A, B, mine, some(moment), stamp_of(stamp))[0]

    def test_fresh_is_tried_ahead_of_current(self):
        side = self.like_sessions()
        self.assertEqual(self.sends_to(side), 1)
        self.assertEqual(side.take(self.packet(side.model.fresh, 1))[0], 4)
        self.assertEqual(self.sends_to(side), 3)
        self.check(side)

    def test_current_is_tried_ahead_of_former(self):
        side = self.like_sessions()
        like = side.model.fresh
        self.assertEqual([side.take(self.packet(like, n))[0] for n in (1, 500)], [4, 4])
        side.take(self.first(5, 3, "another e"), 6, some("g"))
        self.assertEqual(side.take(self.packet(side.model.fresh, 0))[0], 4)
        self.assertEqual([side.take(self.packet(like, n))[0] for n in (500, 501)], [0, 4])
        self.check(side)

    def test_what_the_current_one_has_got_may_be_new_for_the_former_one(self):
        side = self.like_sessions()
        like = side.model.fresh
        self.assertEqual([side.take(self.packet(like, 7))[0] for turn in range(3)], [4, 4, 0])
        self.check(side)

    def test_fresh_current_former_of_the_end_that_began(self):
        talk = Talk()
        talk.settle(1, 2)
        old = talk.a.model.current
        self.assertEqual(talk.a.take(talk.first(5, talk.b), 6, some("g"))[0], 1)
        fresh = talk.a.model.fresh
        self.assertEqual(self.sends_to(talk.a), 2)
        self.assertEqual(talk.a.take(self.packet(fresh, 0))[0], 4)
        self.assertEqual(self.sends_to(talk.a), 5)
        self.assertEqual(talk.a.take(self.packet(old, 9))[0], 4)
        self.assertEqual(talk.shake(7, 8), [2])
        self.assertEqual(talk.a.take(self.packet(old, 10)), [0])
        self.assertEqual(talk.a.take(self.packet(fresh, 1))[0], 4)
        self.assertEqual(self.sends_to(talk.a), 8)
        self.check(talk.a, talk.b)

    def test_known_packet(self):
        given = run([
            call_open(known.SECRET_B, known.A, known.PSK),
            call_take(known.MINE_B, known.MOMENT_B, known.FIRST),
            call_take(0, some("f"), known.PACKET),
            call_take(0, some("f"), known.PACKET),
            call_begin(1, some("e"), known.STAMP)])
        self.assertEqual(given[2], [4, *padded(known.PLAIN)])
        self.assertEqual(given[3], [0])
        self.assertEqual(given[4][0], 148)
