"""What is known of a stream of readings, kept in at most k counters."""


class Stream:
    def __init__(self, k):
        self.k = k
        self.readings = 0
        self.counts = {}
        self.wrong = 0

    def take(self, x):
        if x in self.counts:
            self.counts[x] = self.counts[x] + 1
        elif len(self.counts) < self.k:
            self.counts[x] = 1
        else:
            # x gives up its own 1 along with one of each counter, so every count is too low by one more at most.
            self.counts = one_less(self.counts)
            self.wrong = self.wrong + 1
        self.readings = self.readings + 1

    def has_counter(self, x):
        return x in self.counts

    def told(self, x):
        """How often x came, from below and from above, and how many readings there were."""
        low = self.counts.get(x, 0)
        return [low, low + self.wrong, self.readings]


def one_less(counts):
    left = {}
    for x in counts:
        if counts[x] > 1:
            left[x] = counts[x] - 1
    return left
