"""What the first and the second message have in common: their head, M and the zeros."""

from twoends.blake import digest, mac
from twoends.octets import octets_of, octets_of_text

FIRST = 1
SECOND = 2
PACKET = 4
MARK = 16
LABEL = "mac1----"


def head(kind):
    return octets_of(kind, 4)


def mark_of(before, number):
    return mac(digest(octets_of_text(LABEL) + number), before)


def marked(before, number):
    return before + mark_of(before, number) + [0] * MARK


# Whether a message has its size, its head, and the M for the end with this number.
def is_well_marked(m, kind, size, number):
    if len(m) != size or m[:4] != head(kind):
        return False
    border = size - 2 * MARK
    return m[border:border + MARK] == mark_of(m[:border], number)
