"""What a handshake's two ends mix in step by step: C (chain) and H (seen)."""

from twoends.blake import digest
from twoends.derive import drawn
from twoends.octets import octets_of_text

CONSTRUCTION = "Noise_IKpsk2_25519_ChaChaPoly_BLAKE2s"
IDENTIFIER = "WireGuard v1 zx2c4 Jason@zx2c4.com"


class Mixer:
    def __init__(self, chain, seen):
        self.chain = chain
        self.seen = seen

    # What isn't right must change nothing, so a message is tried on a twin.
    def twin(self):
        return Mixer(self.chain, self.seen)

    def absorb(self, octets):
        self.seen = digest(self.seen + octets)

    def stir(self, octets):
        self.chain = drawn(1, self.chain, octets)[0]

    def stir_for_key(self, octets):
        made = drawn(2, self.chain, octets)
        self.chain = made[0]
        return made[1]

    def stir_psk_for_key(self, psk):
        made = drawn(3, self.chain, psk)
        self.chain = made[0]
        self.absorb(made[1])
        return made[2]


def mixer_towards(number):
    chain = digest(octets_of_text(CONSTRUCTION))
    seen = digest(chain + octets_of_text(IDENTIFIER))
    return Mixer(chain, digest(seen + number))
