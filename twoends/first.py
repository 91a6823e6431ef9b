"""The first message, made and read."""

from twoends.curve import agreed, public, worth_nothing
from twoends.messages import FIRST, head, is_well_marked, marked
from twoends.mixer import mixer_towards
from twoends.octets import number_of, octets_of
from twoends.seal import seal, unseal

SIZE = 148


# What the end that began keeps until the second message comes.
class Handshake:
    def __init__(self, mine, moment, mixer):
        self.mine = mine
        self.moment = moment
        self.mixer = mixer


# What a first message that's read tells the end that answers it.
class Greeting:
    def __init__(self, theirs, point, stamp, mixer):
        self.theirs = theirs
        self.point = point
        self.stamp = stamp
        self.mixer = mixer


def new_handshake(identity, mine, moment):
    return Handshake(mine, moment, mixer_towards(identity.peer))


# Brings the handshake's mixer to the first message's end.
def first_message(identity, handshake, stamp):
    mixer = handshake.mixer
    point = public(handshake.moment)
    mixer.stir(point)
    mixer.absorb(point)
    key = mixer.stir_for_key(agreed(handshake.moment, identity.peer))
    who = seal(key, 0, identity.own, mixer.seen)
    mixer.absorb(who)
    key = mixer.stir_for_key(identity.shared)
    when = seal(key, 0, stamp, mixer.seen)
    mixer.absorb(when)
    before = head(FIRST) + octets_of(handshake.mine, 4) + point + who + when
    return marked(before, identity.peer)


# None where it isn't right; whether its stamp is late enough is for the end to say.
def read_first(identity, m):
    if not is_well_marked(m, FIRST, SIZE, identity.own):
        return None
    point = m[8:40]
    met = agreed(identity.secret, point)
    if worth_nothing(met):
        return None
    mixer = mixer_towards(identity.own)
    mixer.stir(point)
    mixer.absorb(point)
    key = mixer.stir_for_key(met)
    if unseal(key, 0, m[40:88], mixer.seen) != identity.peer:
        return None
    mixer.absorb(m[40:88])
    key = mixer.stir_for_key(identity.shared)
    stamp = unseal(key, 0, m[88:116], mixer.seen)
    if stamp is None:
        return None
    mixer.absorb(m[88:116])
    return Greeting(number_of(m[4:8]), point, stamp, mixer)
