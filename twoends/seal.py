"""ChaCha20-Poly1305 (RFC 8439) with numbers as nonces: SEAL and OPEN."""

from twoends.chacha import crypted, stream_block
from twoends.octets import filled, octets_of
from twoends.poly import poly_tag

TAG = 16


def nonce_of(count):
    return octets_of(0, 4) + octets_of(count, 8)


def tag_of(key, nonce, covered, seen):
    lengths = octets_of(len(seen), 8) + octets_of(len(covered), 8)
    message = filled(seen, 16) + filled(covered, 16) + lengths
    return poly_tag(stream_block(key, 0, nonce)[:32], message)


def seal(key, count, plain, seen):
    nonce = nonce_of(count)
    covered = crypted(key, nonce, plain)
    return covered + tag_of(key, nonce, covered, seen)


# OPEN: None says that it's not right.
def unseal(key, count, sealed, seen):
    if len(sealed) < TAG:
        return None
    nonce = nonce_of(count)
    border = len(sealed) - TAG
    covered = sealed[:border]
    if sealed[border:] != tag_of(key, nonce, covered, seen):
        return None
    return crypted(key, nonce, covered)
