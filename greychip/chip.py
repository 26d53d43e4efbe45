"""What a chip keeps from one call to the next."""

from greychip.counts import PLAIN_GAIN
from greychip.places import PLACES


class Chip:
    """A chip, new as the first of the calls leaves it."""

    def __init__(self):
        self.dark = [0] * PLACES
        self.gains = [PLAIN_GAIN] * PLACES
        self.hot = [False] * PLACES
        self.frame = [0] * PLACES
        self.picture = [0] * PLACES
