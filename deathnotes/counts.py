"""Dicts that count: a key stands in one only while its number is above 0."""


def add_one(counts, key):
    """Count one more of the key."""
    counts[key] = counts.get(key, 0) + 1


def take_one(counts, key):
    """Count one less of a key that is there."""
    if counts[key] == 1:
        del counts[key]
    else:
        counts[key] -= 1


def rising(counts):
    """Tell the tuples (key, number), rising."""
    return tuple(sorted(counts.items()))
