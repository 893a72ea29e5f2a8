"""What the calls of one request work on."""

from votedpairs.pairing import NOBODY


class Market:
    """The instance: the preference lists of both sides and the current matching."""

    def __init__(self, n, m):
        self.person_lists = [[] for person in range(n)]
        self.host_lists = [[] for host in range(m)]
        self.partners = [NOBODY] * n


class Session:
    """A request, which begins without an instance."""

    def __init__(self):
        self.market = None
