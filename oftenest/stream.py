"""What is known of a stream of readings, kept in at most k counters."""

MOST_COUNTERS = 16
MOST_READINGS = 4294967295


class Stream:
    def __init__(self, k):
        self.k = k
        self.readings = 0
        self.counts = {}
        self.wrong = 0

    def take(self, x):
        if x in self.counts:
            self.counts[x] = self.counts[x] + 1
        elif len(self.counts) < self.k:
            self.counts[x] = 1
        else:
            # x gives up its own 1 along with one of each counter, so every count is too low by one more at most.
            self.counts = lowered(self.counts, 1)
            self.wrong = self.wrong + 1
        self.readings = self.readings + 1

    def told(self, x):
        """Whether x has a counter, how often it came from below and from above, and how many readings there were."""
        found = 1 if x in self.counts else 0
        low = self.counts.get(x, 0)
        return [found, low, low + self.wrong, self.readings]

    def oftener(self, p):
        """The values, rising, that came oftener than once in p by their counts."""
        return [x for x in sorted(self.counts) if self.counts[x] * p > self.readings]


def may_count(k):
    return 1 <= k and k <= MOST_COUNTERS


def lowered(counts, by):
    left = {}
    for x in counts:
        if counts[x] > by:
            left[x] = counts[x] - by
    return left


def summed(one, other):
    counts = dict(one)
    for x in other:
        counts[x] = counts.get(x, 0) + other[x]
    return counts


def greatest_but(counts, k):
    """The count behind the k greatest, 0 where there is none."""
    if len(counts) <= k:
        return 0
    return sorted(counts.values(), reverse=True)[k]


def put_together(one, other):
    counts = summed(one.counts, other.counts)
    c = greatest_but(counts, one.k)
    both = Stream(one.k)
    both.readings = one.readings + other.readings
    both.counts = lowered(counts, c)
    both.wrong = one.wrong + other.wrong + c
    return both
