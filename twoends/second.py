"""The second message, made and read, and the sessions that come of it."""

from twoends.curve import agreed, public, worth_nothing
from twoends.derive import drawn
from twoends.messages import SECOND, head, is_well_marked, marked
from twoends.octets import number_of, octets_of
from twoends.seal import seal, unseal
from twoends.session import Session

SIZE = 92


# Both ends do the same here: the answering point, what it makes with the
# beginner's moment, and with the beginner's secret.
def key_of_second(mixer, point, with_moment, with_secret, psk):
    mixer.stir(point)
    mixer.absorb(point)
    mixer.stir(with_moment)
    mixer.stir(with_secret)
    return mixer.stir_psk_for_key(psk)


# Brings the greeting's mixer to the second message's end.
def second_message(identity, greeting, mine, moment, met):
    point = public(moment)
    mixer = greeting.mixer
    key = key_of_second(mixer, point, met, agreed(moment, identity.peer), identity.psk)
    proof = seal(key, 0, [], mixer.seen)
    before = head(SECOND) + octets_of(mine, 4) + octets_of(greeting.theirs, 4) + point + proof
    return marked(before, identity.peer)


def answering_session(greeting, mine):
    made = drawn(2, greeting.mixer.chain, [])
    return Session(mine, greeting.theirs, made[1], made[0])


# The session of the end that began, or None where the message isn't right.
def read_second(identity, handshake, m):
    if not is_well_marked(m, SECOND, SIZE, identity.own):
        return None
    if m[8:12] != octets_of(handshake.mine, 4):
        return None
    point = m[12:44]
    with_moment = agreed(handshake.moment, point)
    with_secret = agreed(identity.secret, point)
    if worth_nothing(with_moment) or worth_nothing(with_secret):
        return None
    mixer = handshake.mixer.twin()
    key = key_of_second(mixer, point, with_moment, with_secret, identity.psk)
    if unseal(key, 0, m[44:60], mixer.seen) is None:
        return None
    made = drawn(2, mixer.chain, [])
    return Session(handshake.mine, number_of(m[4:8]), made[0], made[1])
