"""A bucket: what is kept of some samples."""


class Bucket:
    """How many samples, the first one's and the last one's time, their values' sum, the least and the greatest."""

    def __init__(self, number, first, last, total, least, greatest):
        self.number = number
        self.first = first
        self.last = last
        self.total = total
        self.least = least
        self.greatest = greatest


def bucket_of_one(time, value):
    return Bucket(1, time, time, value, value, value)


def joined(one, other):
    """The bucket of the samples of both; neither of the two is changed."""
    return Bucket(
        one.number + other.number,
        min(one.first, other.first),
        max(one.last, other.last),
        one.total + other.total,
        min(one.least, other.least),
        max(one.greatest, other.greatest),
    )


def numbers_of(bucket):
    """What the bucket keeps, as a list in the order of its class."""
    return [bucket.number, bucket.first, bucket.last, bucket.total, bucket.least, bucket.greatest]


def beginning_of_stretch(time, width):
    """Where the stretch of that width begins in which the time lies; 0 for a time below 0."""
    if time < 0:
        return 0
    return time // width * width


def put_into_stretches(finer, coarser, edge, width):
    """Puts what begins ahead of the edge into coarser's stretches of that width; gives back what stays in finer.

    Both are dicts from where something begins to its bucket; a sample begins at its time.
    """
    staying = {}
    for begins in finer:
        bucket = finer[begins]
        stretch = beginning_of_stretch(begins, width)
        if begins >= edge:
            staying[begins] = bucket
        elif stretch in coarser:
            coarser[stretch] = joined(coarser[stretch], bucket)
        else:
            coarser[stretch] = bucket
    return staying
