"""Two ends that talk all the way, over a wire that loses, doubles, delays and breaks what goes over it."""

import random

from tests.reference import PUB, make_packet
from tests.support import PSK, SECRET_A, SECRET_B, EndCase, Talk, changed_at, some, stamp_of


class PlainDialogueTest(EndCase):
    def test_all_the_way(self):
        talk = Talk()
        first = talk.a.begin(100, some("e"), stamp_of(1))
        self.assertEqual(first[0], 148)
        second = talk.b.take(first[1:], 200, some("f"))
        self.assertEqual(second[0], 1)
        self.assertEqual(talk.a.take(second[1:]), [2])
        for n in range(5):
            there, back = b"there %d" % n, b"and back %d" % n
            self.assertEqual(talk.b.take(talk.a.send(there)[1:]), [4, *there.ljust(16, b"\x00")])
            self.assertEqual(talk.a.take(talk.b.send(back)[1:]), [4, *back.ljust(16, b"\x00")])
        self.check(talk.a, talk.b)

    def test_both_begin_at_once(self):
        talk = Talk()
        from_a, from_b = talk.first(1), talk.first(2, talk.b)
        to_a = talk.b.take(from_a, 3, some("f"))[1:]
        to_b = talk.a.take(from_b, 4, some("g"))[1:]
        self.assertEqual(talk.a.take(to_a), [2])
        self.assertEqual(talk.b.take(to_b), [2])
        # Each one's own handshake took the place of the fresh session that the other's had made.
        self.assertEqual(talk.b.take(talk.a.send(b"x")[1:]), [0])
        self.assertEqual(talk.a.take(talk.b.send(b"y")[1:]), [0])
        self.check(talk.a, talk.b)

    def test_keys_anew_while_packets_go_on(self):
        talk = Talk()
        talk.settle(1, 2)
        late = [talk.a.send(b"late %d" % n)[1:] for n in range(4)]
        talk.settle(3, 4)
        self.assertEqual(talk.b.take(late[1])[0], 4)
        self.assertEqual(talk.b.take(late[1]), [0])
        talk.shake(5, 6)
        self.assertEqual(talk.b.take(late[0])[0], 4)
        self.assertEqual(talk.b.take(talk.a.send(b"new")[1:])[0], 4)
        self.assertEqual(talk.b.take(late[2]), [0])
        self.check(talk.a, talk.b)


class Wire:
    """Does something at random, the same at every run of a seed, and remembers what went over it."""

    def __init__(self, seed):
        self.chance = random.Random(seed)
        self.talk = Talk()
        self.sent = {self.talk.a: [], self.talk.b: []}
        self.stamp = 10

    def bytes(self, size):
        return self.chance.randbytes(size)

    def number(self):
        return self.chance.choice([0, 1, 2, 2**32 - 1, self.chance.randrange(2**32)])

    def step(self):
        side = self.chance.choice([self.talk.a, self.talk.b])
        other = self.talk.b if side is self.talk.a else self.talk.a
        deed = self.chance.choices(
            [self.begin, self.send, self.deliver, self.forge, self.reopen], [3, 6, 12, 3, 0.3])[0]
        deed(side, other)

    def begin(self, side, other):
        self.stamp += self.chance.choice([-1, 0, 1, 1, 1, 256])
        answer = side.begin(self.number(), self.bytes(32), stamp_of(self.stamp))
        self.keep(side, answer)

    def send(self, side, other):
        self.keep(side, side.send(self.bytes(self.chance.choice([0, 1, 15, 16, 17, 50]))))

    def keep(self, side, answer):
        if len(answer) > 1:
            self.sent[side].append(bytes(answer[1:]))

    def deliver(self, side, other):
        if not self.sent[side]:
            return
        m = self.chance.choice(self.sent[side][-4:])
        if self.chance.random() < 0.15:
            m = changed_at(m, self.chance.randrange(len(m)), 1 << self.chance.randrange(8))
        elif self.chance.random() < 0.05:
            m = m[:self.chance.randrange(len(m))]
        answer = other.take(m, self.number(), self.bytes(32))
        if answer[0] == 1:
            self.keep(other, answer)

    def forge(self, side, other):
        model = other.model
        places = [p for p in (model.fresh, model.current, model.former) if p] if model.is_open else []
        if not places:
            return
        place = self.chance.choice(places)
        top = max(place.got, default=0)
        n = self.chance.choice([top + 1, top + 128, max(0, top - 127), max(0, top - 128), top, 2**60])
        other.take(make_packet(place.in_key, place.mine, n, self.bytes(5)), self.number(), self.bytes(32))

    def reopen(self, side, other):
        secret, peer = (SECRET_A, SECRET_B) if side is self.talk.a else (SECRET_B, SECRET_A)
        if self.chance.random() < 0.4:
            side.open(secret, bytes(32), PSK)
        side.open(secret, PUB(peer), PSK)


class RandomDialogueTest(EndCase):
    def test_many(self):
        seen = set()
        for seed in range(25):
            with self.subTest(seed=seed):
                wire = Wire(seed)
                for turn in range(90):
                    wire.step()
                self.check(wire.talk.a, wire.talk.b)
                seen |= {answer[0] for side in wire.sent for answer in side.expected}
        self.assertLessEqual({-3, -2, 0, 1, 2, 4, 32, 48, 148}, seen)
