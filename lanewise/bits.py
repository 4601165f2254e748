"""What the other files share: numbers of k bits, and vectors taken apart into lanes and put together again."""


def ones(k):
    return (1 << k) - 1


def cut(number, k):
    return number & ones(k)


def signed(number, k):
    """The number with a sign that the k bits of a number without one stand for."""
    return number - (1 << k) if number >> (k - 1) else number


def held(number, k):
    """The number itself, or the nearest that k bits without a sign can tell."""
    return max(0, min(number, ones(k)))


def held_signed(number, k):
    """The k bits of the number, or of the nearest that k bits with a sign can tell."""
    greatest = ones(k - 1)
    return cut(max(-greatest - 1, min(number, greatest)), k)


def count_ones(number):
    count = 0
    while number:
        number &= number - 1
        count += 1
    return count


def gather_bits(truths):
    """The number whose bit i is set where truths has a true value at place i."""
    number = 0
    for place, truth in enumerate(truths):
        if truth:
            number |= 1 << place
    return number


def has_bit(number, place):
    return ((number >> place) & 1) == 1


def split_words(words, k):
    """The lanes of k bits that words of 64 bits hold, the lowest first."""
    mask = ones(k)
    lanes = []
    for word in words:
        for low in range(0, 64, k):
            lanes.append((word >> low) & mask)
    return lanes


def join_lanes(lanes, k):
    """The words of 64 bits that hold these lanes of k bits."""
    each = 64 // k
    words = []
    for first in range(0, len(lanes), each):
        word = 0
        for lane in reversed(lanes[first:first + each]):
            word = (word << k) | lane
        words.append(word)
    return words


def by_groups(xs, ys, action):
    """What action makes of each group's lanes of xs and of ys, one group behind the other."""
    size = len(xs) // 4
    lanes = []
    for first in range(0, len(xs), size):
        lanes.extend(action(xs[first:first + size], ys[first:first + size]))
    return lanes
