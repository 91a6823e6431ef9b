"""What an end is opened with."""

from twoends.curve import agreed, public, worth_nothing


class Identity:
    # PUB(S) and DH(S, P) are kept: every message needs them again.
    def __init__(self, secret, peer, psk, shared):
        self.secret = secret
        self.own = public(secret)
        self.peer = peer
        self.psk = psk
        self.shared = shared


# None where DH(S, P) is worth nothing.
def identity_with(secret, peer, psk):
    shared = agreed(secret, peer)
    if worth_nothing(shared):
        return None
    return Identity(secret, peer, psk, shared)
