import itertools
import random
import unittest

from helping import MILLION, Remembering, age, begin, counts, kept_of, last_told, sample, told


def samples_calls(samples):
    return [sample(time, value) for time, value in samples]


def all_stretches(a, c):
    return [(i, j) for i in range(a, c) for j in range(i + 1, c + 1)]


def possible_samples(times, values):
    """All sets of samples at some of the times with some of the values, one at least."""
    for chosen in itertools.product((None,) + tuple(values), repeat=len(times)):
        found = {time: value for time, value in zip(times, chosen) if value is not None}
        if found:
            yield found


class Point1(unittest.TestCase):
    """The bounds of one bucket, against all the samples that it may stand for, one by one."""

    def hold(self, width, values, grown):
        groups = {}
        for samples in possible_samples(range(width), values):
            groups.setdefault(kept_of(samples), []).append(samples)
        stretches = all_stretches(0, width)
        for group in groups.values():
            expected = []
            for a, c in stretches:
                found = [sum(1 for time in samples if a <= time < c) for samples in group]
                expected.append([min(found), max(found)])
            for samples in (group[0], group[-1]):
                self.assertEqual(counts(grown(samples), stretches), expected, samples)

    def test_a_bucket(self):
        def grown(samples):
            return [begin(6, 12, 0, 100, 200)] + samples_calls(samples.items()) + [age(6)]
        self.assertEqual(last_told(*grown({1: 1, 4: 0})), [0, 1, 0])
        self.hold(6, (0, 1), grown)

    def test_a_bucket_of_more_times(self):
        def grown(samples):
            return [begin(9, 9, 0, 100, 200)] + samples_calls(samples.items()) + [age(9)]
        self.hold(9, (5,), grown)

    def test_a_larger_bucket(self):
        def grown(samples):
            return [begin(2, 8, 0, 0, 200)] + samples_calls(samples.items()) + [age(8)]
        self.assertEqual(last_told(*grown({1: 1, 4: 0})), [0, 0, 1])
        self.hold(8, (3,), grown)

    def test_a_larger_bucket_with_several_values(self):
        def grown(samples):
            return [begin(1, 5, 0, 0, 200)] + samples_calls(samples.items()) + [age(5)]
        self.hold(5, (0, 1, 2), grown)


class RandomHouses(unittest.TestCase):
    """Points 2 and 4, and all else that count tells, by samples that the test itself remembers."""

    SETTINGS = (
        (10, 60, 100, 600, 6000), (5, 20, 10, 30, 60), (1, 4, 0, 3, 9), (4, 4, 4, 4, 4), (3, 12, 0, 0, 0),
        (7, 21, 0, 40, 41), (2, 30, 15, 15, 90), (6, 6, 5, 11, 40), (1, 1, 0, 5, 9), (8, 24, 30, 31, 200),
    )

    def walk(self, chance, setting):
        """Calls and a house that remembers: samples come and it grows older, now and then back."""
        house = Remembering(*setting)
        calls = [begin(*setting)]
        reach = setting[4] + 3 * setting[1] + 5
        now = 0
        for step in range(chance.randrange(20, 70)):
            if chance.random() < 0.15:
                now += chance.randrange(0, reach // 4 + 2)
                asked = chance.choice((now, now, now, max(0, now - chance.randrange(reach))))
                house.grow(asked)
                calls.append(age(asked))
            else:
                time = house.edges[0] + chance.randrange(0, 2 + setting[2] + setting[0] * 3)
                value = house.came.setdefault(time, chance.randrange(0, 5))
                calls.append(sample(time, value))
        return house, calls

    def stretches(self, chance, house):
        until = max(house.came, default=0) + 5
        cuts = sorted({chance.randrange(house.edges[2], max(until, house.edges[2] + 1) + 1) for i in range(14)})
        cuts = sorted(set(cuts) | {edge for edge in house.edges} | {until + house.edges[2]})
        return [(a, c) for a in cuts for c in cuts if a < c]

    def houses(self):
        for seed in range(12):
            for setting in self.SETTINGS:
                chance = random.Random(f"{seed} {setting}")
                house, calls = self.walk(chance, setting)
                yield chance, house, calls

    def test_no_sample_is_refused_and_the_sizes_are_right(self):
        for chance, house, calls in self.houses():
            again = Remembering(house.width, house.wide, *house.times)
            for call, found in zip(calls[1:], told(*calls)[1:]):
                if call[0] == 3:
                    again.grow(call[1])
                    self.assertEqual(found, again.sizes(), calls)
                else:
                    again.came[call[1]] = call[2]
                    self.assertEqual(found, [again.sizes()[0]], calls)

    def test_point_2_the_bounds_hold(self):
        wider = 0
        for chance, house, calls in self.houses():
            stretches = self.stretches(chance, house)
            for (a, c), (few, many) in zip(stretches, counts(calls, stretches)):
                self.assertTrue(few <= house.truth(a, c) <= many, (calls, a, c))
                wider += few < many
                if a >= house.edges[0]:
                    self.assertEqual(few, many, (calls, a, c))
        self.assertGreater(wider, 1000)

    def test_the_bounds_are_the_closest(self):
        for chance, house, calls in self.houses():
            stretches = self.stretches(chance, house)
            expected = [house.bounds(a, c) for a, c in stretches]
            self.assertEqual(counts(calls, stretches), expected, calls)

    def test_point_4_between_beginnings_of_wide_stretches(self):
        for chance, house, calls in self.houses():
            until = max(max(house.came, default=0), house.edges[2]) + 2 * house.wide
            cuts = list(range(house.edges[2], until, house.wide))
            cuts = sorted(chance.sample(cuts, min(len(cuts), 12)))
            stretches = [(a, c) for a in cuts for c in cuts if a < c]
            expected = [[house.truth(a, c)] * 2 for a, c in stretches]
            self.assertEqual(counts(calls, stretches), expected, calls)


class Point2(unittest.TestCase):
    def test_from_e0_on_both_are_the_same(self):
        calls = samples_calls([(time, 1) for time in range(0, 120, 7)]) + [age(160)]
        expected = [[sum(1 for time in range(0, 120, 7) if a <= time < c)] * 2 for a, c in all_stretches(60, 90)]
        self.assertEqual(counts(calls, all_stretches(60, 90)), expected)

    def test_refused_samples_do_not_count(self):
        calls = [sample(3, 1), sample(3, 2), sample(MILLION + 1, 1), age(110), sample(4, 1)]
        self.assertEqual(counts(calls, [(0, 10), (0, 2 * MILLION)]), [[1, 1], [1, 1]])


class Point3(unittest.TestCase):
    """To grow older in steps is as at once."""

    def hold(self, setting, samples, steps):
        house = [begin(*setting)] + samples_calls(samples)
        at_once = house + [age(max(steps))]
        in_steps = house + [age(now) for now in steps]
        self.assertEqual(last_told(*at_once), last_told(*in_steps), steps)
        remembering = Remembering(*setting)
        remembering.grow(max(steps))
        e2 = remembering.edges[2]
        stretches = [(a, c) for a, c in all_stretches(e2, e2 + 40)]
        self.assertEqual(counts(at_once, stretches), counts(in_steps, stretches), steps)
        # What may come afterwards is the same too.
        further = [sample(time, 1) for time in range(0, 150, 5)]
        self.assertEqual(told(*at_once, *further)[-30:], told(*in_steps, *further)[-30:])

    def test_step_by_step(self):
        samples = [(time, time % 4) for time in range(0, 60, 3)]
        for now in (20, 33, 47, 60, 75, 90, 120):
            self.hold((4, 12, 10, 25, 60), samples, list(range(0, now + 1, 1)))
            self.hold((4, 12, 10, 25, 60), samples, list(range(0, now, 7)) + [now])

    def test_to_and_fro(self):
        samples = [(time, time % 4) for time in range(0, 60, 3)]
        self.hold((4, 12, 10, 25, 60), samples, [50, 3, 80, 79, 0])
        self.hold((4, 12, 10, 25, 60), samples, [64, 64, 63])

    def test_steps_into_each_part(self):
        samples = [(time, 1) for time in (1, 2, 3, 9, 14, 20, 21, 22, 38, 39, 45)]
        self.hold((5, 20, 10, 30, 100), samples, [15, 20, 31, 49, 50, 62])


class Point5(unittest.TestCase):
    """In whatever order samples come, all is the same."""

    def test_all_orders_of_five(self):
        samples = [(1, 4), (3, 0), (4, 9), (12, 2), (13, 2)]
        for nows in ((9,), (30,), (50,)):
            found = []
            for order in itertools.permutations(samples):
                calls = [begin(10, 20, 5, 25, 100)] + samples_calls(order) + [age(now) for now in nows]
                found.append((last_told(*calls), counts(calls, all_stretches(0, 16))))
            self.assertEqual(found, [found[0]] * len(found))

    def test_many_shuffled(self):
        samples = [(time, time % 7) for time in range(0, 240, 4)]
        first = None
        for seed in range(20):
            random.Random(seed).shuffle(samples)
            calls = [begin(10, 40, 40, 100, 300)] + samples_calls(samples) + [age(200)]
            stretches = [(a, c) for a in range(0, 240, 13) for c in range(a + 1, 260, 17)]
            found = (last_told(*calls), counts(calls, stretches))
            first = first or found
            self.assertEqual(found, first, seed)

    def test_growing_older_between(self):
        one = [sample(50, 1), age(120), sample(30, 2), sample(41, 3), sample(45, 3), age(200)]
        other = [sample(45, 3), sample(30, 2), age(120), sample(50, 1), sample(41, 3), age(200)]
        self.assertEqual(last_told(*one), last_told(*other))
        self.assertEqual(counts(one, all_stretches(28, 54)), counts(other, all_stretches(28, 54)))


if __name__ == "__main__":
    unittest.main()
