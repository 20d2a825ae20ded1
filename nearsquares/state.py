"""What lies at the desk."""

from nearsquares.pairs import Pair
from nearsquares.roundway import least_pair

MOST_MOVES_BACK = 12


class Desk:
    """n, the pair at hand, those kept, and what was at hand before each of the last moves."""

    def __init__(self):
        # None as long as no begin was answered 0.
        self.n = None
        self.one = None
        self.hand = None
        self.kept = []
        self.earlier = []

    def begin(self, n):
        self.n = n
        self.one = least_pair(n)
        self.hand = Pair(1, 0)
        self.kept = []
        self.earlier = []

    def move_to(self, pair):
        self.earlier.append(self.hand)
        self.earlier = self.earlier[-MOST_MOVES_BACK:]
        self.hand = pair

    def move_back(self):
        self.hand = self.earlier.pop()

    def has_kept(self, i):
        return i < len(self.kept)
