"""What the tests share: calls by name, answers call by call, and a house told anew from all samples that ever came."""

from coarsekept.house import answers

TOP = 2 ** 64 - 1
MILLION = 10 ** 6


def begin(width, wide, samples, buckets, larger):
    return [1, width, wide, samples, buckets, larger]


def sample(time, value):
    return [2, time, value]


def age(now):
    return [3, now]


def count(a, c):
    return [4, a, c]


def flat(calls):
    """The calls as one list, held to the lengths that the interface allows."""
    line = [number for call in calls for number in call]
    if not 1 <= len(calls) <= 200 or len(line) > 1200:
        raise AssertionError("the test hands in more than the interface allows")
    return line


def parted(answered):
    """The answers call by call, without the counts before them."""
    parts = []
    at = 0
    while at < len(answered):
        behind = at + 1 + answered[at]
        if behind > len(answered):
            raise AssertionError("an answer is cut short")
        parts.append(answered[at + 1:behind])
        at = behind
    return parts


def told(*calls):
    """What each of the calls is answered."""
    parts = parted(answers(flat(calls)))
    if len(parts) != len(calls):
        raise AssertionError("not one answer for each call")
    return parts


def last_told(*calls):
    return told(*calls)[-1]


def counts(before, stretches):
    """What count answers for each stretch of time behind the calls before; in several lists, if one is too short."""
    found = []
    room = min(200 - len(before), (1200 - sum(len(call) for call in before)) // 3)
    for at in range(0, len(stretches), room):
        asked = [count(a, c) for a, c in stretches[at:at + room]]
        found.extend(told(*before, *asked)[len(before):])
    return found


def kept_of(samples):
    """What a bucket keeps of the samples, a dict of times and values."""
    values = list(samples.values())
    return (len(samples), min(samples), max(samples), sum(values), min(values), max(values))


class Remembering:
    """Remembers every sample that came; tells from these and the edges what is kept, without growing older."""

    def __init__(self, width=10, wide=60, samples=100, buckets=600, larger=6000):
        self.width, self.wide = width, wide
        self.times = (samples, buckets, larger)
        self.edges = [0, 0, 0]
        self.came = {}

    def grow(self, now):
        for i, width in enumerate((self.width, self.wide, self.wide)):
            back = max(0, now - self.times[i])
            self.edges[i] = max(self.edges[i], back - back % width)

    def grouped(self, width, since, until):
        """The samples of each stretch of the width that begins from since to ahead of until."""
        groups = {}
        for time, value in self.came.items():
            begins = time - time % width
            if since <= begins < until:
                groups.setdefault(begins, {})[time] = value
        return list(groups.values())

    def kept(self):
        """The samples by themselves, then those of each bucket, then those of each larger one."""
        e0, e1, e2 = self.edges
        alone = [{time: value} for time, value in self.came.items() if time >= e0]
        return (alone, self.grouped(self.width, e1, e0), self.grouped(self.wide, e2, e1))

    def sizes(self):
        return [len(part) for part in self.kept()]

    def truth(self, a, c):
        return sum(1 for time in self.came if a <= time < c)

    def bounds(self, a, c):
        """The fewest and the most, found by putting the samples between first and last early, late, in or out."""
        groups = [group for part in self.kept() for group in part]
        both = [fewest_and_most(group, a, c) for group in groups]
        return [sum(few for few, many in both), sum(many for few, many in both)]


def fewest_and_most(group, a, c):
    first, last = min(group), max(group)
    within = [time for time in range(first + 1, last) if a <= time < c]
    beyond = [time for time in range(first + 1, last) if not a <= time < c]
    ends = len([time for time in {first, last} if a <= time < c])
    hidden = len(group) - len({first, last})
    few = (beyond + within)[:hidden]
    many = (within + beyond)[:hidden]
    return (
        ends + len([time for time in few if a <= time < c]),
        ends + len([time for time in many if a <= time < c]),
    )
