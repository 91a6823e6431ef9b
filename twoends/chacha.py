"""ChaCha20 (RFC 8439)."""

from twoends.octets import octets_of, words_of

BLOCK = 64
LOW = 0xffffffff
CONSTANTS = (0x61707865, 0x3320646e, 0x79622d32, 0x6b206574)
QUARTERS = (
    (0, 4, 8, 12), (1, 5, 9, 13), (2, 6, 10, 14), (3, 7, 11, 15),
    (0, 5, 10, 15), (1, 6, 11, 12), (2, 7, 8, 13), (3, 4, 9, 14),
)


def quarter(work, a, b, c, d):
    one = (work[a] + work[b]) & LOW
    turned = work[d] ^ one
    four = ((turned << 16) & LOW) | (turned >> 16)
    three = (work[c] + four) & LOW
    turned = work[b] ^ three
    two = ((turned << 12) & LOW) | (turned >> 20)
    one = (one + two) & LOW
    turned = four ^ one
    four = ((turned << 8) & LOW) | (turned >> 24)
    three = (three + four) & LOW
    turned = two ^ three
    work[a] = one
    work[b] = ((turned << 7) & LOW) | (turned >> 25)
    work[c] = three
    work[d] = four


def stream_block(key, counter, nonce):
    start = list(CONSTANTS) + words_of(key) + [counter] + words_of(nonce)
    work = list(start)
    for turn in range(10):
        for a, b, c, d in QUARTERS:
            quarter(work, a, b, c, d)
    result = []
    for before, behind in zip(start, work):
        result.extend(octets_of((before + behind) & LOW, 4))
    return result


def crypted(key, nonce, octets):
    # The block with the counter 0 makes the tag's key, so texts begin at 1.
    result = []
    for at in range(0, len(octets), BLOCK):
        mask = stream_block(key, 1 + at // BLOCK, nonce)
        result.extend([octet ^ cover for octet, cover in zip(octets[at:at + BLOCK], mask)])
    return result
