"""A source of chance of its own, which tells the same on each Python, for values that are held by digests."""

import hashlib


class Lots:
    """Tells numbers one after the other; it has those methods of random.Random that the tests call."""

    def __init__(self, seed):
        self.state = seed * 2654435761 % 2 ** 64 + 1

    def randrange(self, many):
        """A number below many."""
        self.state = (self.state * 6364136223846793005 + 1442695040888963407) % 2 ** 64
        return (self.state >> 33) % many

    def randint(self, least, most):
        """A number from least to most."""
        return least + self.randrange(most - least + 1)

    def choice(self, things):
        """One of the things."""
        return things[self.randrange(len(things))]

    def random(self):
        """A number from 0 on, below 1."""
        return self.randrange(1000) / 1000

    def sample(self, things, many):
        """So many of the things, each at most once."""
        left = list(things)
        return [left.pop(self.randrange(len(left))) for _ in range(many)]


def digest(things):
    """A short text that is the same for the same things alone."""
    return hashlib.sha256(repr(things).encode()).hexdigest()[:24]
