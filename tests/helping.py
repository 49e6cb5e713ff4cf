"""What the tests share: calls by name, answers call by call, and a house told anew from all samples that ever came."""

from coarsekept.house import answers

TOP = 2 ** 64 - 1
MILLION = 10 ** 6


def begin(width, wide, samples, buckets, larger):
    return [1, width, wide, samples, buckets, larger]


def sample(time, value):
    return [2, time, value]


def age(now):
    return [3, now]


def count(a, c):
    return [4, a, c]


def summed(a, c):
    return [5, a, c]


def most(a, c):
    return [6, a, c]


def edges():
    return [7]


def buckets(i):
    return [8, i]


def samples_calls(samples):
    return [sample(time, value) for time, value in samples]


def all_stretches(a, c):
    return [(i, j) for i in range(a, c) for j in range(i + 1, c + 1)]


def flat(calls):
    """The calls as one list, held to the lengths that the interface allows."""
    line = [number for call in calls for number in call]
    if not 1 <= len(calls) <= 200 or len(line) > 1200:
        raise AssertionError("the test hands in more than the interface allows")
    return line


def parted(answered):
    """The answers call by call, without the counts before them."""
    parts = []
    at = 0
    while at < len(answered):
        behind = at + 1 + answered[at]
        if behind > len(answered):
            raise AssertionError("an answer is cut short")
        parts.append(answered[at + 1:behind])
        at = behind
    return parts


def told(*calls):
    """What each of the calls is answered."""
    parts = parted(answers(flat(calls)))
    if len(parts) != len(calls):
        raise AssertionError("not one answer for each call")
    return parts


def last_told(*calls):
    return told(*calls)[-1]


def told_behind(before, asked):
    """What each of the calls asked, which change nothing, is answered behind those before; in as few lists as may be."""
    found = []
    waiting = list(asked)
    while waiting:
        room = 1200 - sum(len(call) for call in before)
        now = []
        while waiting and len(before) + len(now) < 200 and len(waiting[0]) <= room:
            room -= len(waiting[0])
            now.append(waiting.pop(0))
        if not now:
            raise AssertionError("there is no room behind the calls before")
        found.extend(told(*before, *now)[len(before):])
    return found


def counts(before, stretches):
    return told_behind(before, [count(a, c) for a, c in stretches])


def sums(before, stretches):
    return told_behind(before, [summed(a, c) for a, c in stretches])


def mosts(before, stretches):
    return told_behind(before, [most(a, c) for a, c in stretches])


def all_told(before, stretches):
    """All that can be asked behind the calls before."""
    kept = told_behind(before, [edges(), buckets(0), buckets(1), age(0)])
    return (kept, counts(before, stretches), sums(before, stretches), mosts(before, stretches))


def kept_of(samples):
    """What a bucket keeps of the samples, a dict of times and values."""
    values = list(samples.values())
    return (len(samples), min(samples), max(samples), sum(values), min(values), max(values))


class Remembering:
    """Remembers every sample that came; tells from these and the edges what is kept, without growing older."""

    def __init__(self, width=10, wide=60, samples=100, buckets=600, larger=6000):
        self.width, self.wide = width, wide
        self.times = (samples, buckets, larger)
        self.edges = [0, 0, 0]
        self.came = {}

    def grow(self, now):
        for i, width in enumerate((self.width, self.wide, self.wide)):
            back = max(0, now - self.times[i])
            self.edges[i] = max(self.edges[i], back - back % width)

    def grouped(self, width, since, until):
        """The samples of each stretch of the width that begins from since to ahead of until."""
        groups = {}
        for time, value in self.came.items():
            begins = time - time % width
            if since <= begins < until:
                groups.setdefault(begins, {})[time] = value
        return groups

    def kept(self):
        """The samples by themselves, then those of each bucket, then those of each larger one."""
        e0, e1, e2 = self.edges
        alone = [{time: value} for time, value in self.came.items() if time >= e0]
        return (
            alone,
            list(self.grouped(self.width, e1, e0).values()),
            list(self.grouped(self.wide, e2, e1).values()),
        )

    def groups(self):
        return [group for part in self.kept() for group in part]

    def sizes(self):
        return [len(part) for part in self.kept()]

    def rows(self, i):
        """What buckets answers."""
        e0, e1, e2 = self.edges
        groups = self.grouped(self.wide, e2, e1) if i else self.grouped(self.width, e1, e0)
        found = [len(groups)]
        for begins, group in sorted(groups.items()):
            found += [begins, *kept_of(group)]
        return found

    def there(self, a, c):
        """The values of the samples that truly lie there."""
        return [value for time, value in self.came.items() if a <= time < c]

    def number_bounds(self, a, c):
        both = [fewest_and_most(group, a, c) for group in self.groups()]
        return [sum(few for few, many in both), sum(many for few, many in both)]

    def sum_bounds(self, a, c):
        both = [least_and_greatest(group, a, c) for group in self.groups()]
        return [sum(low for low, high in both), sum(high for low, high in both)]

    def most(self, a, c):
        found = [max(group.values()) for group in self.groups() if fewest_and_most(group, a, c)[1]]
        return [max(found, default=-4)]


def fewest_and_most(group, a, c):
    """Found by putting the samples between the first and the last at times beyond, or within, as long as there are."""
    first, last = min(group), max(group)
    within = [time for time in range(first + 1, last) if a <= time < c]
    beyond = [time for time in range(first + 1, last) if not a <= time < c]
    ends = len([time for time in {first, last} if a <= time < c])
    hidden = len(group) - len({first, last})
    few = (beyond + within)[:hidden]
    many = (within + beyond)[:hidden]
    return (
        ends + len([time for time in few if a <= time < c]),
        ends + len([time for time in many if a <= time < c]),
    )


def values_poured(group):
    """Values of which the same is kept, the greater ones as far in front as may be."""
    number, first, last, total, least, greatest = kept_of(group)
    values = [greatest] + [least] * (number - 1)
    rest = total - sum(values) if number > 1 else 0
    for i in range(1, number - 1):
        more = min(rest, greatest - least)
        values[i] += more
        rest -= more
    if (len(values), sum(values), min(values), max(values)) != (number, total, least, greatest):
        raise AssertionError("the values are poured wrong")
    return values


def least_and_greatest(group, a, c):
    """Found by giving the lesser of the poured values to the fewest, or the greater ones to the most, that lie there."""
    few, many = fewest_and_most(group, a, c)
    values = values_poured(group)
    return (sum(values[len(values) - few:]), sum(values[:many]))
