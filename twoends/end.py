"""An end that is open: its latest stamp, its handshake and its sessions."""

from twoends.curve import agreed, worth_nothing
from twoends.first import first_message, new_handshake, read_first
from twoends.messages import FIRST, PACKET, SECOND
from twoends.second import answering_session, read_second, second_message
from twoends.session import has_packet_form

NOT_RIGHT = 0
NOT_NOW = -3


class End:
    def __init__(self, identity):
        self.identity = identity
        self.latest_stamp = None
        self.handshake = None
        self.fresh = None
        self.current = None
        self.former = None

    def begin(self, mine, moment, stamp):
        handshake = new_handshake(self.identity, mine, moment)
        message = first_message(self.identity, handshake, stamp)
        self.handshake = handshake
        return [len(message)] + message

    def take(self, mine, moment, m):
        kind = m[0] if len(m) > 0 else PACKET
        if kind == FIRST:
            return self.take_first(mine, moment, m)
        if kind == SECOND:
            return self.take_second(m)
        return self.take_packet(m)

    def take_first(self, mine, moment, m):
        greeting = read_first(self.identity, m)
        if greeting is None or not self.is_later(greeting.stamp):
            return [NOT_RIGHT]
        met = agreed(moment, greeting.point)
        if worth_nothing(met):
            return [NOT_RIGHT]
        message = second_message(self.identity, greeting, mine, moment, met)
        self.latest_stamp = greeting.stamp
        self.fresh = answering_session(greeting, mine)
        return [FIRST] + message

    # Lists are compared as stamps are: number by number, the first one counting most.
    def is_later(self, stamp):
        return self.latest_stamp is None or stamp > self.latest_stamp

    def take_second(self, m):
        if self.handshake is None:
            return [NOT_RIGHT]
        session = read_second(self.identity, self.handshake, m)
        if session is None:
            return [NOT_RIGHT]
        self.make_current(session)
        self.handshake = None
        return [SECOND]

    def make_current(self, session):
        self.former = self.current
        self.current = session
        self.fresh = None

    def take_packet(self, m):
        if not has_packet_form(m):
            return [NOT_RIGHT]
        plain = accepted(self.fresh, m)
        if plain is not None:
            self.make_current(self.fresh)
            return [PACKET] + plain
        plain = accepted(self.current, m)
        if plain is None:
            plain = accepted(self.former, m)
        if plain is None:
            return [NOT_RIGHT]
        return [PACKET] + plain

    def send(self, d):
        if self.current is None or self.current.is_used_up():
            return [NOT_NOW]
        packet = self.current.packet(d)
        return [len(packet)] + packet


def accepted(session, m):
    if session is None:
        return None
    return session.accept(m)
