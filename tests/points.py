"""Numbers whose DH is all zeros, whatever the secret."""

PRIME = 2**255 - 19
ORDER_EIGHT = (
    "e0eb7a7c3b41b8ae1656e3faf19fc46ada098deb9c32b1fd866205165f49b800",
    "5f9c95bca3508c24b1d0b1559c83ef5b04445cc4581c8e86d8224eddd09f1157",
)


def worthless_points():
    """Below the prime, at it, above it; and all of these with the highest bit set."""
    low = [n.to_bytes(32, "little") for n in (0, 1, PRIME - 1, PRIME, PRIME + 1)]
    low += [bytes.fromhex(text) for text in ORDER_EIGHT]
    return low + [point[:31] + bytes([point[31] | 128]) for point in low]
