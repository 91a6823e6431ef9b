"""BLAKE2s (RFC 7693): digest is the document's HASH, mac its MAC."""

from twoends.octets import filled, octets_of, words_of

BLOCK = 64
LOW = 0xffffffff
START = (
    0x6a09e667, 0xbb67ae85, 0x3c6ef372, 0xa54ff53a,
    0x510e527f, 0x9b05688c, 0x1f83d9ab, 0x5be0cd19,
)
ORDERS = (
    (0, 1, 2, 3, 4, 5, 6, 7, 8, 9, 10, 11, 12, 13, 14, 15),
    (14, 10, 4, 8, 9, 15, 13, 6, 1, 12, 0, 2, 11, 7, 5, 3),
    (11, 8, 12, 0, 5, 2, 15, 13, 10, 14, 3, 6, 7, 1, 9, 4),
    (7, 9, 3, 1, 13, 12, 11, 14, 2, 6, 5, 10, 4, 0, 15, 8),
    (9, 0, 5, 7, 2, 4, 10, 15, 14, 1, 11, 12, 6, 8, 3, 13),
    (2, 12, 6, 10, 0, 11, 8, 3, 4, 13, 7, 5, 15, 14, 1, 9),
    (12, 5, 1, 15, 14, 13, 4, 10, 0, 7, 6, 3, 9, 2, 8, 11),
    (13, 11, 7, 14, 12, 1, 3, 9, 5, 0, 15, 4, 8, 6, 2, 10),
    (6, 15, 14, 9, 11, 3, 0, 8, 12, 2, 13, 7, 1, 4, 10, 5),
    (10, 2, 8, 4, 7, 6, 1, 5, 15, 11, 9, 14, 3, 12, 13, 0),
)
# Four places of the work, then which two of a round's words are mixed in there.
LANES = (
    (0, 4, 8, 12, 0, 1), (1, 5, 9, 13, 2, 3), (2, 6, 10, 14, 4, 5), (3, 7, 11, 15, 6, 7),
    (0, 5, 10, 15, 8, 9), (1, 6, 11, 12, 10, 11), (2, 7, 8, 13, 12, 13), (3, 4, 9, 14, 14, 15),
)


def mix(work, a, b, c, d, x, y):
    one = (work[a] + work[b] + x) & LOW
    turned = work[d] ^ one
    four = (turned >> 16) | ((turned << 16) & LOW)
    three = (work[c] + four) & LOW
    turned = work[b] ^ three
    two = (turned >> 12) | ((turned << 20) & LOW)
    one = (one + two + y) & LOW
    turned = four ^ one
    four = (turned >> 8) | ((turned << 24) & LOW)
    three = (three + four) & LOW
    turned = two ^ three
    work[a] = one
    work[b] = (turned >> 7) | ((turned << 25) & LOW)
    work[c] = three
    work[d] = four


def compressed(state, block, reached, last):
    words = words_of(block)
    work = state + list(START)
    work[12] = work[12] ^ (reached & LOW)
    work[13] = work[13] ^ (reached >> 32)
    if last:
        work[14] = work[14] ^ LOW
    for order in ORDERS:
        for a, b, c, d, x, y in LANES:
            mix(work, a, b, c, d, words[order[x]], words[order[y]])
    return [state[place] ^ work[place] ^ work[place + 8] for place in range(8)]


def blake(size, key, message):
    octets = filled(key, BLOCK) + message
    state = list(START)
    state[0] = state[0] ^ 0x01010000 ^ (len(key) << 8) ^ size
    # The last block is marked as such, even if it is full: so it is left out of the loop.
    at = 0
    while at + BLOCK < len(octets):
        state = compressed(state, octets[at:at + BLOCK], at + BLOCK, False)
        at = at + BLOCK
    tail = octets[at:]
    block = tail + [0] * (BLOCK - len(tail))
    state = compressed(state, block, len(octets), True)
    result = []
    for word in state:
        result.extend(octets_of(word, 4))
    return result[:size]


def digest(message):
    return blake(32, [], message)


def mac(key, message):
    return blake(16, key, message)
