"""A line of calls about one end, which may not be open."""

from twoends.end import NOT_NOW, End
from twoends.identity import identity_with

DONE = 0
TOO_LONG = -1
WORTHLESS = -2
MOST_TAKEN = 65568
MOST_SENT = 65536


class Line:
    def __init__(self):
        self.end = None

    def set_up(self, secret, peer, psk):
        identity = identity_with(secret, peer, psk)
        if identity is None:
            self.end = None
            return [WORTHLESS]
        self.end = End(identity)
        return [DONE]

    def begin(self, mine, moment, stamp):
        if self.end is None:
            return [NOT_NOW]
        return self.end.begin(mine, moment, stamp)

    def take(self, mine, moment, m):
        if len(m) > MOST_TAKEN:
            return [TOO_LONG]
        if self.end is None:
            return [NOT_NOW]
        return self.end.take(mine, moment, m)

    def send(self, d):
        if len(d) > MOST_SENT:
            return [TOO_LONG]
        if self.end is None:
            return [NOT_NOW]
        return self.end.send(d)
