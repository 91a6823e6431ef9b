"""A session: two numbers, two keys, and which packets were sent and got."""

from twoends.messages import PACKET, head
from twoends.octets import filled, number_of, octets_of
from twoends.seal import seal, unseal

NUMBERS_END = 0x1000000000000000
WINDOW = 128
PART = 16
SHORTEST = 32


class Session:
    def __init__(self, mine, theirs, sending_key, opening_key):
        self.mine = mine
        self.theirs = theirs
        self.sending_key = sending_key
        self.opening_key = opening_key
        self.next_number = 0
        self.greatest = -1
        self.got = {}

    def is_used_up(self):
        return self.next_number == NUMBERS_END

    def packet(self, plain):
        number = self.next_number
        sealed = seal(self.sending_key, number, filled(plain, PART), [])
        self.next_number = number + 1
        return head(PACKET) + octets_of(self.theirs, 4) + octets_of(number, 8) + sealed

    def is_new(self, number):
        return number < NUMBERS_END and number not in self.got and self.greatest - number < WINDOW

    # What's in a packet, whose number is got then; or None where it isn't right for this session.
    def accept(self, m):
        if m[4:8] != octets_of(self.mine, 4):
            return None
        number = number_of(m[8:16])
        if not self.is_new(number):
            return None
        plain = unseal(self.opening_key, number, m[16:], [])
        if plain is None:
            return None
        self.got[number] = True
        self.greatest = max(self.greatest, number)
        return plain


def has_packet_form(m):
    return len(m) >= SHORTEST and len(m) % PART == 0 and m[:4] == head(PACKET)
