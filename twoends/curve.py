"""X25519 (RFC 7748): agreed is the document's DH, public its PUB."""

from twoends.octets import number_of, octets_of

PRIME = 0x7fffffffffffffffffffffffffffffffffffffffffffffffffffffffffffffed
BELOW_TOP_BIT = 0x7fffffffffffffffffffffffffffffffffffffffffffffffffffffffffffffff
TOP_SCALAR_BIT = 0x4000000000000000000000000000000000000000000000000000000000000000
CURVE_NUMBER = 121665
BASE = 9


def inverse(value):
    # By Fermat; 0 becomes 0, as the RFC wants it.
    power = 1
    for place in range(254, -1, -1):
        power = power * power % PRIME
        if ((PRIME - 2) >> place) & 1 == 1:
            power = power * value % PRIME
    return power


def scalar_of(secret):
    number = number_of(secret) & BELOW_TOP_BIT
    return (number - number % 8) | TOP_SCALAR_BIT


def multiplied(scalar, u):
    x2 = 1
    z2 = 0
    x3 = u
    z3 = 1
    swapped = 0
    # A scalar's lowest bit is 0, so nothing is left swapped behind the loop.
    for place in range(254, -1, -1):
        bit = (scalar >> place) & 1
        if bit != swapped:
            x = x2
            x2 = x3
            x3 = x
            z = z2
            z2 = z3
            z3 = z
        swapped = bit
        a = x2 + z2
        b = x2 - z2
        da = (x3 - z3) * a % PRIME
        cb = (x3 + z3) * b % PRIME
        aa = a * a % PRIME
        bb = b * b % PRIME
        e = aa - bb
        x3 = (da + cb) * (da + cb) % PRIME
        z3 = u * ((da - cb) * (da - cb) % PRIME) % PRIME
        x2 = aa * bb % PRIME
        z2 = e * (aa + CURVE_NUMBER * e) % PRIME
    return x2 * inverse(z2) % PRIME


def agreed(secret, point):
    u = (number_of(point) & BELOW_TOP_BIT) % PRIME
    return octets_of(multiplied(scalar_of(secret), u), 32)


def public(secret):
    return agreed(secret, octets_of(BASE, 32))


def worth_nothing(octets):
    return octets == [0] * len(octets)
