"""The closest bounds of what a bucket's samples may be in a stretch of time."""


def times_within(begins, ends, a, c):
    """How many whole times from begins to ahead of ends lie from a to ahead of c."""
    return max(0, min(ends, c) - max(begins, a))


def known_within(bucket, a, c):
    """How many samples whose time is known, the first and the last one, lie from a to ahead of c."""
    known = times_within(bucket.first, bucket.first + 1, a, c)
    # One sample alone is both the first and the last.
    if bucket.number > 1:
        known += times_within(bucket.last, bucket.last + 1, a, c)
    return known


def number_bounds(bucket, a, c):
    """The fewest and the most of the bucket's samples that may lie from a to ahead of c, as a tuple."""
    known = known_within(bucket, a, c)
    # The others lie anywhere between the first and the last, each at a time of its own:
    # the fewest lie within where all the times outside are taken, the most where those inside are.
    others = max(0, bucket.number - 2)
    between = max(0, bucket.last - bucket.first - 1)
    inside = times_within(bucket.first + 1, bucket.last, a, c)
    outside = between - inside
    return (known + max(0, others - outside), known + min(others, inside))
