"""The house that keeps samples, and the calls on it."""

from coarsekept.bounds import added_up, may_lie_within, number_bounds, sum_bounds
from coarsekept.bucket import beginning_of_stretch, bucket_of_one, numbers_of, put_into_stretches

LIMIT = 1000000
LATEST_NOW = 2000000
MOST_SAMPLES = 100

# How many whole numbers stand behind a call's number.
GIVEN = {1: 5, 2: 2, 3: 1, 4: 2, 5: 2, 6: 2, 7: 0, 8: 1}


class House:
    """What is kept, and since when. Each call answers a list of numbers; a refusal is its number alone."""

    def __init__(self):
        self.set_up(10, 60, 100, 600, 6000)

    def set_up(self, width, wide, samples_time, buckets_time, larger_time):
        self.width = width
        self.wide = wide
        self.samples_time = samples_time
        self.buckets_time = buckets_time
        self.larger_time = larger_time
        self.e0 = 0
        self.e1 = 0
        self.e2 = 0
        # Each from where it begins to its bucket; a sample is kept as a bucket of one, at its time.
        self.samples = {}
        self.buckets = {}
        self.larger = {}

    def begin(self, width, wide, samples_time, buckets_time, larger_time):
        if not widths_fit(width, wide) or not times_fit(samples_time, buckets_time, larger_time):
            return [-1]
        self.set_up(width, wide, samples_time, buckets_time, larger_time)
        return [0]

    def sample(self, time, value):
        if time > LIMIT or value > LIMIT:
            return [-1]
        if time < self.e0:
            return [-6]
        if time in self.samples:
            if self.samples[time].total != value:
                return [-4]
            # The same once more adds none, so it is no matter how many there are.
            return [len(self.samples)]
        if len(self.samples) >= MOST_SAMPLES:
            return [-5]
        self.samples[time] = bucket_of_one(time, value)
        return [len(self.samples)]

    def age(self, now):
        if now > LATEST_NOW:
            return [-1]
        self.move_edges(now)
        # Finer first, so that one call can take a sample through all buckets.
        self.samples = put_into_stretches(self.samples, self.buckets, self.e0, self.width)
        self.buckets = put_into_stretches(self.buckets, self.larger, self.e1, self.wide)
        self.forget_larger()
        return [len(self.samples), len(self.buckets), len(self.larger)]

    def move_edges(self, now):
        self.e0 = max(self.e0, beginning_of_stretch(now - self.samples_time, self.width))
        self.e1 = max(self.e1, beginning_of_stretch(now - self.buckets_time, self.wide))
        self.e2 = max(self.e2, beginning_of_stretch(now - self.larger_time, self.wide))

    def forget_larger(self):
        staying = {}
        for begins in self.larger:
            if begins >= self.e2:
                staying[begins] = self.larger[begins]
        self.larger = staying

    def how_many(self, a, c):
        refused = self.refused_stretch(a, c)
        if refused < 0:
            return [refused]
        return added_up([number_bounds(one, a, c) for one in self.kept()])

    def what_they_come_to(self, a, c):
        refused = self.refused_stretch(a, c)
        if refused < 0:
            return [refused]
        return added_up([sum_bounds(one, a, c) for one in self.kept()])

    def greatest_there(self, a, c):
        refused = self.refused_stretch(a, c)
        if refused < 0:
            return [refused]
        # Any sample of a bucket may be the one with its greatest value, so one that may lie there is enough.
        found = [one.greatest for one in self.kept() if may_lie_within(one, a, c)]
        if len(found) == 0:
            return [-4]
        return [max(found)]

    def edges(self):
        return [self.e0, self.e1, self.e2]

    def buckets_in_order(self, i):
        if i > 1:
            return [-1]
        asked = self.buckets if i == 0 else self.larger
        answered = [len(asked)]
        for begins in sorted(asked):
            answered.append(begins)
            answered.extend(numbers_of(asked[begins]))
        return answered

    def refused_stretch(self, a, c):
        """The number of the refusal of the time from a to ahead of c; 0, if it is not refused."""
        if c <= a:
            return -1
        if a < self.e2:
            return -3
        return 0

    def kept(self):
        return list(self.larger.values()) + list(self.buckets.values()) + list(self.samples.values())


def widths_fit(width, wide):
    if width == 0 or wide == 0:
        return False
    return wide <= LIMIT and wide % width == 0


def times_fit(samples_time, buckets_time, larger_time):
    return samples_time <= buckets_time <= larger_time <= LIMIT


def answer(house, number, given):
    """What the house answers to the call of that number, one of those in GIVEN, with the numbers given."""
    if number == 1:
        return house.begin(given[0], given[1], given[2], given[3], given[4])
    if number == 2:
        return house.sample(given[0], given[1])
    if number == 3:
        return house.age(given[0])
    if number == 4:
        return house.how_many(given[0], given[1])
    if number == 5:
        return house.what_they_come_to(given[0], given[1])
    if number == 6:
        return house.greatest_there(given[0], given[1])
    if number == 7:
        return house.edges()
    return house.buckets_in_order(given[0])


def answers(calls):
    """The answers of a new house to the calls, each with how many numbers it has before it."""
    house = House()
    answered = []
    at = 0
    while at < len(calls):
        number = calls[at]
        behind = at + 1 + GIVEN[number]
        told = answer(house, number, calls[at + 1:behind])
        answered.append(len(told))
        answered.extend(told)
        at = behind
    return answered
