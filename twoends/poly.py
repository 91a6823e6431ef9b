"""Poly1305 (RFC 8439)."""

from twoends.octets import number_of, octets_of

PRIME = 0x3fffffffffffffffffffffffffffffffb
CLAMP = 0x0ffffffc0ffffffc0ffffffc0fffffff
PART = 16


def poly_tag(key, message):
    factor = number_of(key[:PART]) & CLAMP
    total = 0
    for at in range(0, len(message), PART):
        part = message[at:at + PART]
        total = (total + number_of(part + [1])) * factor % PRIME
    return octets_of(total + number_of(key[PART:]), PART)
