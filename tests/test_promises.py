"""Points 1, 3 and 5; test_houses.py has 2 and 4."""

import itertools
import random
import unittest

from helping import (
    MILLION, Remembering, age, all_stretches, all_told, begin, buckets, counts, edges, kept_of, last_told, most, mosts,
    sample, samples_calls, summed, sums, told,
)


def possible_samples(times, values):
    """All sets of samples at some of the times with some of the values, one at least."""
    for chosen in itertools.product((None,) + tuple(values), repeat=len(times)):
        found = {time: value for time, value in zip(times, chosen) if value is not None}
        if found:
            yield found


def there(samples, a, c):
    return [value for time, value in samples.items() if a <= time < c]


class Point1(unittest.TestCase):
    """The bounds of one bucket, against all the samples that it may stand for, one by one."""

    def hold(self, times, values, grown, sizes):
        # The values are all from the least to the greatest, so that none that a bucket may stand for is left out.
        groups = {}
        for samples in possible_samples(times, values):
            groups.setdefault(kept_of(samples), []).append(samples)
        stretches = all_stretches(times[0], times[-1] + 1)
        stretches += [(max(0, times[0] - 1), times[-1] + 3), (times[-1] + 1, times[-1] + 2)]
        for group in groups.values():
            number, total, greatest = [], [], []
            for a, c in stretches:
                lying = [there(samples, a, c) for samples in group]
                number.append([min(map(len, lying)), max(map(len, lying))])
                total.append([min(map(sum, lying)), max(map(sum, lying))])
                greatest.append([max(max(one, default=-4) for one in lying)])
            for samples in (group[0], group[-1]):
                calls = grown(samples)
                self.assertEqual(last_told(*calls), sizes, samples)
                self.assertEqual(counts(calls, stretches), number, samples)
                self.assertEqual(sums(calls, stretches), total, samples)
                self.assertEqual(mosts(calls, stretches), greatest, samples)
        return groups

    def hold_bucket(self, width, values, begins=0):
        def grown(samples):
            setting = begin(width, 2 * width, 0, 100, 200)
            return [setting] + samples_calls(samples.items()) + [age(begins + width)]
        return self.hold(range(begins, begins + width), values, grown, [0, 1, 0])

    def hold_larger(self, width, wide, values, begins=0):
        def grown(samples):
            setting = begin(width, wide, 0, 0, 200)
            return [setting] + samples_calls(samples.items()) + [age(begins + wide)]
        return self.hold(range(begins, begins + wide), values, grown, [0, 0, 1])

    def test_a_bucket(self):
        groups = self.hold_bucket(6, (0, 1, 2))
        self.assertEqual({kept[0] for kept in groups}, {1, 2, 3, 4, 5, 6})

    def test_a_bucket_of_more_times(self):
        self.hold_bucket(9, (5,))
        self.hold_bucket(7, (3, 4))

    def test_a_bucket_with_values_apart(self):
        groups = self.hold_bucket(4, range(2, 9))
        # Sums from the least that there can be to the greatest, so that either side is the one that's short.
        self.assertEqual({kept[3] for kept in groups if kept[:3] == (4, 0, 3) and kept[4:] == (2, 8)}, set(range(14, 27)))

    def test_a_bucket_that_begins_later(self):
        self.hold_bucket(5, (1, 2, 3), begins=15)

    def test_a_larger_bucket(self):
        self.hold_larger(2, 8, (3,))
        self.hold_larger(2, 6, (0, 1, 2))

    def test_a_larger_bucket_with_several_values(self):
        self.hold_larger(1, 5, (0, 1, 2, 3))

    def test_a_larger_bucket_with_values_apart(self):
        self.hold_larger(2, 4, range(0, 7))

    def test_a_larger_bucket_that_begins_later(self):
        self.hold_larger(2, 4, (1, 2, 3), begins=12)

    def test_a_sample(self):
        def grown(samples):
            return [begin(5, 10, 10, 100, 200)] + samples_calls(samples.items()) + [age(5)]
        for time in range(5):
            self.hold([time], (0, 4), grown, [1, 0, 0])


def behind_all():
    """Calls of all eight kinds, which tell what else would come of a house."""
    calls = [edges(), buckets(0), buckets(1)]
    calls += [sample(time, 1) for time in range(0, 150, 5)]
    calls += [age(110), edges(), buckets(0), buckets(1), age(140), buckets(0), buckets(1)]
    calls += [summed(90, 137), most(90, 137), begin(3, 6, 5, 5, 40), sample(2, 2), age(20), edges(), buckets(0), buckets(1)]
    return calls


class Point3(unittest.TestCase):
    """To grow older in steps is as at once."""

    def hold(self, setting, samples, steps):
        house = [begin(*setting)] + samples_calls(samples)
        at_once = house + [age(max(steps))]
        in_steps = house + [age(now) for now in steps]
        self.assertEqual(last_told(*at_once), last_told(*in_steps), steps)
        remembering = Remembering(*setting)
        remembering.grow(max(steps))
        e2 = remembering.edges[2]
        stretches = all_stretches(e2, e2 + 20) + [(a, c) for a in range(e2, e2 + 90, 7) for c in range(a + 3, e2 + 99, 11)]
        self.assertEqual(all_told(at_once, stretches), all_told(in_steps, stretches), steps)
        # What may come afterwards is the same too.
        further = behind_all()
        self.assertEqual(told(*at_once, *further)[-len(further):], told(*in_steps, *further)[-len(further):])

    def test_step_by_step(self):
        samples = [(time, time * 5 % 13) for time in range(0, 60, 3)]
        for now in (20, 33, 47, 60, 75, 90, 120):
            self.hold((4, 12, 10, 25, 60), samples, list(range(0, now + 1, 1)))
            self.hold((4, 12, 10, 25, 60), samples, list(range(0, now, 7)) + [now])

    def test_to_and_fro(self):
        samples = [(time, time * 5 % 13) for time in range(0, 60, 3)]
        self.hold((4, 12, 10, 25, 60), samples, [50, 3, 80, 79, 0])
        self.hold((4, 12, 10, 25, 60), samples, [64, 64, 63])

    def test_steps_into_each_part(self):
        samples = [(time, 100 - time) for time in (1, 2, 3, 9, 14, 20, 21, 22, 38, 39, 45)]
        self.hold((5, 20, 10, 30, 100), samples, [15, 20, 31, 49, 50, 62])

    def test_steps_at_random(self):
        for seed in range(15):
            chance = random.Random(seed)
            samples = [(time, chance.choice((0, 3, MILLION, chance.randrange(50)))) for time in chance.sample(range(90), 30)]
            width = chance.randrange(1, 8)
            times = sorted(chance.randrange(0, 80) for i in range(3))
            steps = sorted(chance.randrange(0, 170) for i in range(chance.randrange(1, 9)))
            self.hold((width, width * chance.randrange(1, 5), *times), samples, steps)


class Point5(unittest.TestCase):
    """In whatever order samples come, all is the same."""

    def test_all_orders_of_five(self):
        samples = [(1, 4), (3, 0), (4, 9), (12, 2), (13, 2)]
        for now in (9, 15, 30, 50):
            first = None
            for order in itertools.permutations(samples):
                calls = [begin(10, 20, 5, 25, 100)] + samples_calls(order) + [age(now)]
                found = (last_told(*calls), all_told(calls, all_stretches(0, 16)))
                first = first or found
                self.assertEqual(found, first, order)

    def test_many_shuffled(self):
        samples = [(time, time * 17 % 101) for time in range(0, 240, 4)]
        stretches = [(a, c) for a in range(0, 240, 13) for c in range(a + 1, 260, 17)]
        first = None
        for seed in range(20):
            random.Random(seed).shuffle(samples)
            calls = [begin(10, 40, 40, 100, 300)] + samples_calls(samples) + [age(200)]
            further = behind_all()
            found = (last_told(*calls), all_told(calls, stretches), told(*calls, *further)[-len(further):])
            first = first or found
            self.assertEqual(found, first, seed)

    def test_growing_older_between(self):
        one = [sample(50, 1), age(120), sample(30, 2), sample(41, 3), sample(45, 3), age(200)]
        other = [sample(45, 3), sample(30, 2), age(120), sample(50, 1), sample(41, 3), age(200)]
        self.assertEqual(last_told(*one), last_told(*other))
        self.assertEqual(all_told(one, all_stretches(28, 54)), all_told(other, all_stretches(28, 54)))


if __name__ == "__main__":
    unittest.main()
