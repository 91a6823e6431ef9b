"""HMAC (RFC 2104) with HASH, and the keys that are drawn by it (KDFn)."""

from twoends.blake import BLOCK, digest


def hmac(key, message):
    short = digest(key) if len(key) > BLOCK else key
    block = short + [0] * (BLOCK - len(short))
    inner = digest([octet ^ 0x36 for octet in block] + message)
    return digest([octet ^ 0x5c for octet in block] + inner)


def drawn(count, key, message):
    root = hmac(key, message)
    latest = []
    result = []
    for place in range(1, count + 1):
        latest = hmac(root, latest + [place])
        result.append(latest)
    return result
