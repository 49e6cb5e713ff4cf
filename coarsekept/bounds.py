"""The closest bounds of what a bucket's samples may be in a stretch of time."""


def times_within(begins, ends, a, c):
    """How many whole times from begins to ahead of ends lie from a to ahead of c."""
    return max(0, min(ends, c) - max(begins, a))


def known_within(bucket, a, c):
    """How many samples whose time is known, the first and the last one, lie from a to ahead of c."""
    known = times_within(bucket.first, bucket.first + 1, a, c)
    # One sample alone is both the first and the last.
    if bucket.number > 1:
        known += times_within(bucket.last, bucket.last + 1, a, c)
    return known


def number_bounds(bucket, a, c):
    """The fewest and the most of the bucket's samples that may lie from a to ahead of c, as a tuple."""
    known = known_within(bucket, a, c)
    # The others lie anywhere between the first and the last, each at a time of its own:
    # the fewest lie within where all the times outside are taken, the most where those inside are.
    others = max(0, bucket.number - 2)
    between = max(0, bucket.last - bucket.first - 1)
    inside = times_within(bucket.first + 1, bucket.last, a, c)
    outside = between - inside
    return (known + max(0, others - outside), known + min(others, inside))


def sum_bounds(bucket, a, c):
    """The least and the greatest sum of the values of the bucket's samples from a to ahead of c, as a tuple."""
    few_and_many = number_bounds(bucket, a, c)
    return (least_sum(bucket, few_and_many[0]), greatest_sum(bucket, few_and_many[1]))


# Any sample of a bucket may have any of its values. That one has the least and one the greatest costs neither bound
# below anything: where some lie within and some do not, the least is on the side with the small sum, the greatest on
# the other.


def least_sum(bucket, within):
    """The least that so many of the bucket's samples come to; it is no greater for fewer of them."""
    # The others take what they can of the sum.
    others = bucket.number - within
    return max(within * bucket.least, bucket.total - others * bucket.greatest)


def greatest_sum(bucket, within):
    """The greatest that so many of the bucket's samples come to; it is no less for more of them."""
    # The others leave what they can of the sum.
    others = bucket.number - within
    return min(within * bucket.greatest, bucket.total - others * bucket.least)


def may_lie_within(bucket, a, c):
    """Whether any of the bucket's samples may lie from a to ahead of c."""
    return number_bounds(bucket, a, c)[1] > 0


def added_up(pairs):
    """The lower bounds added up, then the upper ones, of a list of tuples of both."""
    return [sum([pair[0] for pair in pairs]), sum([pair[1] for pair in pairs])]
